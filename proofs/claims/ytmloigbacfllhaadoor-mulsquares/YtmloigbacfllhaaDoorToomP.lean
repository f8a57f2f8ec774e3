/- Plain facts: Toom's five values. -/
import Derived.Test.YtmloigbacfllhaaDoorPure5
namespace Go.Proofs.YtmloigbacfllhaaDoor
open Lm

theorem toom_one (x0 x1 x2 y0 y1 y2 : Nat) : (x0 + x1 + x2) * (y0 + y1 + y2) = (x0 * y0 + (x0 * y2 + x1 * y1 + x2 * y0) + x2 * y2) + ((x0 * y1 + x1 * y0) + (x1 * y2 + x2 * y1)) := by grind

theorem toom_two (x0 x1 x2 y0 y1 y2 : Nat) : (x0 + x1 * 2 + x2 * 4) * (y0 + y1 * 2 + y2 * 4) = x0 * y0 + 2 * (x0 * y1 + x1 * y0) + 4 * (x0 * y2 + x1 * y1 + x2 * y0) + 8 * (x1 * y2 + x2 * y1) + 16 * (x2 * y2) := by grind

theorem toom_less (x0 x1 x2 y0 y1 y2 dx dy : Nat) (hx : dx = if x0 + x2 < x1 then x1 - (x0 + x2) else x0 + x2 - x1) (hy : dy = if y0 + y2 < y1 then y1 - (y0 + y2) else y0 + y2 - y1) :
    dx * dy + (x0 + x1 + x2) * (y0 + y1 + y2) = 2 * (if decide (x0 + x2 < x1) = decide (y0 + y2 < y1) then (x0 * y0 + (x0 * y2 + x1 * y1 + x2 * y0) + x2 * y2) else ((x0 * y1 + x1 * y0) + (x1 * y2 + x2 * y1))) := by
  subst hx; subst hy
  by_cases h1 : x0 + x2 < x1 <;> by_cases h2 : y0 + y2 < y1
  · obtain ⟨p, rfl⟩ : ∃ p, x1 = x0 + x2 + p := ⟨x1 - (x0 + x2), by omega⟩
    obtain ⟨q, rfl⟩ : ∃ q, y1 = y0 + y2 + q := ⟨y1 - (y0 + y2), by omega⟩
    simp only [h1, h2, decide_true, if_true, Nat.add_sub_cancel_left]
    grind
  · obtain ⟨p, rfl⟩ : ∃ p, x1 = x0 + x2 + p := ⟨x1 - (x0 + x2), by omega⟩
    obtain ⟨q, hq⟩ : ∃ q, y0 + y2 = y1 + q := ⟨y0 + y2 - y1, by omega⟩
    have e : y0 + y2 - y1 = q := by omega
    simp only [h1, h2, decide_true, decide_false, if_true, if_false, Nat.add_sub_cancel_left, Bool.true_eq_false, e]
    grind
  · obtain ⟨p, hp⟩ : ∃ p, x0 + x2 = x1 + p := ⟨x0 + x2 - x1, by omega⟩
    obtain ⟨q, rfl⟩ : ∃ q, y1 = y0 + y2 + q := ⟨y1 - (y0 + y2), by omega⟩
    have e : x0 + x2 - x1 = p := by omega
    simp only [h1, h2, decide_true, decide_false, if_true, if_false, Nat.add_sub_cancel_left, Bool.false_eq_true, e]
    grind
  · obtain ⟨p, hp⟩ : ∃ p, x0 + x2 = x1 + p := ⟨x0 + x2 - x1, by omega⟩
    obtain ⟨q, hq⟩ : ∃ q, y0 + y2 = y1 + q := ⟨y0 + y2 - y1, by omega⟩
    have e : x0 + x2 - x1 = p := by omega
    have e2 : y0 + y2 - y1 = q := by omega
    simp only [h1, h2, decide_false, if_true, if_false, e, e2]
    grind

theorem toom_total (x0 x1 x2 y0 y1 y2 P : Nat) : (x0 + P * x1 + P * P * x2) * (y0 + P * y1 + P * P * y2) =
    x0 * y0 + P * P * (P * P) * (x2 * y2) + P * (x0 * y1 + x1 * y0) + P * P * (x0 * y2 + x1 * y1 + x2 * y0) + P * P * P * (x1 * y2 + x2 * y1) := by grind

end Go.Proofs.YtmloigbacfllhaaDoor
