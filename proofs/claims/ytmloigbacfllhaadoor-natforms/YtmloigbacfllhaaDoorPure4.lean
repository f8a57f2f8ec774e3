/- Plain facts: a number has one list of limbs without noughts at its top. -/
import Derived.Test.YtmloigbacfllhaaDoorPure3
namespace Go.Proofs.YtmloigbacfllhaaDoor
namespace Lm

theorem tr_tail {z : Nat} {r : List Nat} (h : tr (z :: r) = z :: r) : tr r = r := by
  simp only [tr] at h
  split at h
  · cases h
  · injection h

theorem val_zero {a : List Nat} (h : tr a = a) (hv : val a = 0) : a = [] := by
  induction a with
  | nil => rfl
  | cons z r ih =>
    exfalso
    simp only [val] at hv
    have hz : z = 0 := by omega
    have hr : val r = 0 := by omega
    have := ih (tr_tail h) hr
    subst this hz
    simp [tr] at h

theorem norm_inj : ∀ (a b : List Nat), Limbs a → Limbs b → tr a = a → tr b = b → val a = val b → a = b
  | [], b, _, _, _, hb, hv => (val_zero hb (by simp only [val] at hv; omega)).symm
  | a, [], _, _, ha, _, hv => val_zero ha (by simp only [val] at hv; omega)
  | x :: r, y :: s, hla, hlb, ha, hb, hv => by
    have hx : x < 18446744073709551616 := hla x (by simp)
    have hy : y < 18446744073709551616 := hlb y (by simp)
    simp only [val] at hv
    have e1 : x = y := by omega
    have e2 : val r = val s := by omega
    have := norm_inj r s (fun z hz => hla z (by simp [hz])) (fun z hz => hlb z (by simp [hz])) (tr_tail ha) (tr_tail hb) e2
    rw [e1, this]

end Lm
end Go.Proofs.YtmloigbacfllhaaDoor
