/- The document's Floor. -/
import Derived.Test.YtgkbjoobgaldnaaDoorQ3
import Derived.Test.YtgkbjoobgaldnaaDoorQG
import Derived.Test.YtgkbjoobgaldnaaDoorQ2
import Derived.Deep.CutBlock
import Derived.Deep.DeepCutAuto
import Derived.Test.YtgkbjoobgaldnaaDoorQJ
namespace Go.Proofs.YtgkbjoobgaldnaaDoor
open Go.RowKit
open Lm
attribute [local go_sem ↓] Go.wp_at_zero Go.wp_at_succ

theorem blen_mulW (x y : Nat) : blen (x * y) ≤ blen x + blen y := by
  refine (blen_le_iff _ _).2 ?_
  have h1 := (blen_le_iff x _).1 (Nat.le_refl _)
  have h2 := (blen_le_iff y _).1 (Nat.le_refl _)
  rw [Nat.pow_add]
  exact Nat.mul_lt_mul_of_lt_of_lt h1 h2

theorem bl_trans6 {W0 W t : World} (h : Below W0.heap.size W0 W) (h2 : Below W.heap.size W t) : Below W0.heap.size W0 t := h.trans (h2.mono h.size)

theorem blen_plusW {a b n : Nat} (ha : blen a ≤ n) (hb : blen b ≤ n) : blen (a + b) ≤ n + 1 := by
  refine (blen_le_iff _ _).2 ?_
  have h1 := (blen_le_iff a _).1 ha
  have h2 := (blen_le_iff b _).1 hb
  rw [Nat.pow_succ]
  omega

theorem pow_blenW (x : Nat) (h : x ≠ 0) : 2 ^ (blen x - 1) ≤ x := by
  rcases Nat.lt_or_ge x (2 ^ (blen x - 1)) with h1 | h1
  · have h2 := (blen_le_iff x (blen x - 1)).2 h1
    have h3 : blen x = 0 := by omega
    have h4 := (blen_le_iff x 0).1 (by omega)
    simp at h4
    exact absurd h4 h
  · exact h1

/-- A quotient and its divisor together are hardly longer than what was divided. -/
theorem quo_room {x y k q n : Nat} (hy : y ≠ 0) (hq : q ≤ x / y + k) (hk : k ≤ 2) (hx : blen x ≤ n) (hyb : blen y ≤ n) : blen q + blen y ≤ n + 5 := by
  have h1 : blen q ≤ blen (x / y) + 2 := by
    refine (blen_le_iff _ _).2 ?_
    have h1 := (blen_le_iff (x / y) _).1 (Nat.le_refl _)
    rw [Nat.pow_add]
    have := Nat.two_pow_pos (blen (x / y))
    omega
  have h2 : blen (x / y) + blen y ≤ n + 1 := by
    by_cases h0 : x / y = 0
    · have : blen (x / y) ≤ 0 := (blen_le_iff _ _).2 (by rw [h0]; decide)
      omega
    · have a := pow_blenW _ h0
      have b := pow_blenW _ hy
      have c := Nat.mul_le_mul a b
      have d := Nat.div_mul_le_self x y
      rw [← Nat.pow_add] at c
      have e := (blen_le_iff x _).1 hx
      have f : 2 ^ (blen (x / y) - 1 + (blen y - 1)) < 2 ^ n := by omega
      have g := (Nat.pow_lt_pow_iff_right (a := 2) (by omega)).1 f
      omega
  omega

/-- The quotient downwards, as the document reckons it. -/
def flq (y z : Int) : Int := zz (decide (y < 0) != decide (z < 0)) (y.natAbs / z.natAbs) - if decide (y.natAbs % z.natAbs ≠ 0) && (decide (y < 0) != decide (z < 0)) then 1 else 0

/-- Two of the document's numbers. -/
def ZnDone2 (w : World) (y z : Int) (e : Ending) (w' : World) : Prop :=
  (∃ b a n k b' a' n' k', e = .returned (.tuple #[.agg #[.bool b, .slice a n k], .agg #[.bool b', .slice a' n' k']]) ∧ Zn w' (.agg #[.bool b, .slice a n k]) y ∧ Zn w' (.agg #[.bool b', .slice a' n' k']) z) ∧ Below w.heap.size w w'

theorem quadZ {w : World} {g : Nat} {p p' : Bool} {a a' : Option Addr} {n k n' k' : Nat} {b1 b2 : Bool} {u1 u2 : Value} (h2 : w.heap[g]? = some (.cells #[.bool p, .slice a n k] 38)) (h3 : w.heap[g + 1]? = some (.cells #[.bool p', .slice a' n' k'] 38)) :
    ((((w.setCell ⟨g, 0, none⟩ (.bool b1)).setCell ⟨g, 1, none⟩ u1).setCell ⟨g + 1, 0, none⟩ (.bool b2)).setCell ⟨g + 1, 1, none⟩ u2).heap[g]? = some (.cells #[.bool b1, u1] 38) ∧
    ((((w.setCell ⟨g, 0, none⟩ (.bool b1)).setCell ⟨g, 1, none⟩ u1).setCell ⟨g + 1, 0, none⟩ (.bool b2)).setCell ⟨g + 1, 1, none⟩ u2).heap[g + 1]? = some (.cells #[.bool b2, u2] 38) ∧
    (∀ v z, Zn w v z → Zn ((((w.setCell ⟨g, 0, none⟩ (.bool b1)).setCell ⟨g, 1, none⟩ u1).setCell ⟨g + 1, 0, none⟩ (.bool b2)).setCell ⟨g + 1, 1, none⟩ u2) v z) := by
  have h4 := duo_other (u0 := .bool b1) (u1 := u1) h3 (show g + 1 ≠ g by omega)
  exact ⟨duo_other (duo_all h2) (by omega), duo_all h4, fun v z hz => (hz.duo h2).duo h4⟩

end Go.Proofs.YtgkbjoobgaldnaaDoor

/- The document's Ceil. -/
namespace Go.Proofs.YtgkbjoobgaldnaaDoor
open Go.RowKit
open Lm
attribute [local go_sem ↓] Go.wp_at_zero Go.wp_at_succ

theorem flq_few (y z : Int) : (flq y z).natAbs ≤ y.natAbs / z.natAbs + 1 := by
  unfold flq
  generalize y.natAbs / z.natAbs = q
  generalize (decide (y < 0) != decide (z < 0)) = s
  generalize decide (y.natAbs % z.natAbs ≠ 0) = t
  cases s <;> cases t <;> simp [zz] <;> omega

theorem blen_next {x q k : Nat} (h : q ≤ x + k) (hk : k ≤ 2) : blen q ≤ blen x + 2 := by
  refine (blen_le_iff _ _).2 ?_
  have h1 := (blen_le_iff x _).1 (Nat.le_refl _)
  rw [Nat.pow_add]
  have := Nat.two_pow_pos (blen x)
  omega

/-- The quotient upwards, as the document reckons it. -/
def ceq (y z : Int) : Int := if y - flq y z * z = 0 then flq y z else flq y z + 1

end Go.Proofs.YtgkbjoobgaldnaaDoor

/- The document's Quo and Euclid. -/
namespace Go.Proofs.YtgkbjoobgaldnaaDoor
open Go.RowKit
open Lm
attribute [local go_sem ↓] Go.wp_at_zero Go.wp_at_succ

/-- Towards 0, as the document reckons it. -/
def quq (y z : Int) : Int := if decide (y < 0) = decide (z < 0) then flq y z else ceq y z

/-- With a rest from 0 on. -/
def euq (y z : Int) : Int := if z < 0 then ceq y z else flq y z

end Go.Proofs.YtgkbjoobgaldnaaDoor

/- The document's Near. -/
namespace Go.Proofs.YtgkbjoobgaldnaaDoor
open Go.RowKit
open Lm
attribute [local go_sem ↓] Go.wp_at_zero Go.wp_at_succ

theorem Zn.inv9 {w : World} {b : Bool} {u : Value} {z : Int} (h : Zn w (.agg #[.bool b, u]) z) : b = decide (z < 0) ∧ Num w u z.natAbs := by
  obtain ⟨u', h1, h2⟩ := h
  simp only [Value.agg.injEq, Array.mk.injEq, List.cons.injEq, Value.bool.injEq, and_true] at h1
  obtain ⟨rfl, rfl⟩ := h1
  exact ⟨rfl, h2⟩

/-- Is the quotient downwards too small by more than a half? -/
def nearC (y z : Int) : Bool := decide (z.natAbs < (y - flq y z * z).natAbs * 2) || (decide ((y - flq y z * z).natAbs * 2 = z.natAbs) && decide ((flq y z).natAbs % 2 = 1))

/-- To the nearest, as the document reckons it. -/
def neq (y z : Int) : Int := if nearC y z then flq y z + 1 else flq y z

end Go.Proofs.YtgkbjoobgaldnaaDoor
