/- Lehmer's steps in plain numbers. -/
import Derived.Test.YtelfjadonlgkiabDoorQA
import Derived.Test.YtelfjadonlgkiabDoorQD
import Derived.Handy
import Derived.Test.YtelfjadonlgkiabDoorQE
import Derived.Deep.RegionWith
import Derived.Deep.CutBlock
import Derived.Deep.DeepCutAuto
import Derived.Deep.RegionHeld3
import Derived.BigQuiet
import Derived.Test.YtelfjadonlgkiabDoorQK
import Derived.Test.YtelfjadonlgkiabDoorQL
import Derived.Test.YtelfjadonlgkiabDoorQB
import Derived.Deep.QuietTactic
import Derived.Test.YtelfjadonlgkiabDoorQM
import Derived.Test.YtelfjadonlgkiabDoorQF
namespace Go.Proofs.YtelfjadonlgkiabDoor
namespace Lm

theorem lehmer_gcd {X Y X' Y' a b c d : Nat} (h1 : X = d * X' + b * Y') (h2 : Y = c * X' + a * Y') (h3 : ∀ g, g ∣ X → g ∣ Y → g ∣ X' ∧ g ∣ Y') : Nat.gcd X' Y' = Nat.gcd X Y := by
  refine Nat.dvd_antisymm (Nat.dvd_gcd ?_ ?_) ?_
  · rw [h1]; exact Nat.dvd_add (Nat.dvd_trans (Nat.gcd_dvd_left _ _) (Nat.dvd_mul_left _ _)) (Nat.dvd_trans (Nat.gcd_dvd_right _ _) (Nat.dvd_mul_left _ _))
  · rw [h2]; exact Nat.dvd_add (Nat.dvd_trans (Nat.gcd_dvd_left _ _) (Nat.dvd_mul_left _ _)) (Nat.dvd_trans (Nat.gcd_dvd_right _ _) (Nat.dvd_mul_left _ _))
  · obtain ⟨k1, k2⟩ := h3 _ (Nat.gcd_dvd_left X Y) (Nat.gcd_dvd_right X Y)
    exact Nat.dvd_gcd k1 k2

theorem dvd_of_sum {g p q r : Nat} (h : p + q = r) (hq : g ∣ q) (hr : g ∣ r) : g ∣ p := by
  have : p = r - q := by omega
  rw [this]; exact Nat.dvd_sub hr hq

/-- What some steps of Euclid's make of two numbers, of which the highest bits alone were looked at. -/
structure LTake (X Y X' Y' : Nat) : Prop where
  lt : Y' < X'
  le : X' ≤ Y
  gcd : Nat.gcd X' Y' = Nat.gcd X Y

theorem lehmer_even {X Y P xh yh xl yl x y a b c d : Nat} (det : a * d = b * c + 1) (hx : xh = d * x + b * y) (hy : yh = c * x + a * y) (eX : X = xh * P + xl) (eY : Y = yh * P + yl) (lx : xl < P) (ly : yl < P)
    (h1 : d ≤ y) (h2 : y + (b + d) ≤ x) (hcd : c ≤ d) (hc : 1 ≤ c) :
    ∃ X' Y', X' + b * Y = a * X ∧ Y' + c * X = d * Y ∧ LTake X Y X' Y' := by
  have e1 : a * xh = b * yh + x := by rw [hx, hy]; grind
  have e2 : d * yh = c * xh + y := by rw [hx, hy]; grind
  have b1 : b * yl ≤ b * P := Nat.mul_le_mul_left _ (Nat.le_of_lt ly)
  have b2 : c * xl ≤ c * P := Nat.mul_le_mul_left _ (Nat.le_of_lt lx)
  have b3 : (b + d) * yl < (b + d) * P := Nat.mul_lt_mul_of_pos_left ly (by omega)
  have b4 : (y + (b + d)) * P ≤ x * P := Nat.mul_le_mul_right _ h2
  have b5 : c * P ≤ y * P := Nat.mul_le_mul_right _ (by omega)
  rw [Nat.add_mul, Nat.add_mul b d P] at b4
  rw [Nat.add_mul, Nat.add_mul b d P] at b3
  obtain ⟨X', eX'⟩ : ∃ X', X' + b * yl = x * P + a * xl := ⟨x * P + a * xl - b * yl, by omega⟩
  obtain ⟨Y', eY'⟩ : ∃ Y', Y' + c * xl = y * P + d * yl := ⟨y * P + d * yl - c * xl, by omega⟩
  have f1 : X' + b * Y = a * X := by
    rw [eX, eY, Nat.mul_add, Nat.mul_add, ← Nat.mul_assoc, ← Nat.mul_assoc, e1, Nat.add_mul]; omega
  have f2 : Y' + c * X = d * Y := by
    rw [eX, eY, Nat.mul_add, Nat.mul_add, ← Nat.mul_assoc, ← Nat.mul_assoc, e2, Nat.add_mul]; omega
  have g1 : X = d * X' + b * Y' := by
    have k1 : d * (X' + b * Y) = d * (a * X) := by rw [f1]
    have k2 : b * (Y' + c * X) = b * (d * Y) := by rw [f2]
    have k3 : a * d * X = (b * c + 1) * X := by rw [det]
    grind
  have g2 : Y = c * X' + a * Y' := by
    have k1 : c * (X' + b * Y) = c * (a * X) := by rw [f1]
    have k2 : a * (Y' + c * X) = a * (d * Y) := by rw [f2]
    have k3 : a * d * Y = (b * c + 1) * Y := by rw [det]
    grind
  refine ⟨X', Y', f1, f2, ?_, ?_, lehmer_gcd g1 g2 fun g k1 k2 => ⟨dvd_of_sum f1 (Nat.dvd_mul_left_of_dvd k2 _) (Nat.dvd_mul_left_of_dvd k1 _), dvd_of_sum f2 (Nat.dvd_mul_left_of_dvd k1 _) (Nat.dvd_mul_left_of_dvd k2 _)⟩⟩
  · omega
  · rw [g2]
    have := Nat.le_mul_of_pos_left X' (show 0 < c by omega)
    omega

theorem lehmer_odd {X Y P xh yh xl yl x y a b c d : Nat} (det : b * c = a * d + 1) (hx : xh = d * x + b * y) (hy : yh = c * x + a * y) (eX : X = xh * P + xl) (eY : Y = yh * P + yl) (lx : xl < P) (ly : yl < P)
    (h1 : d ≤ y) (h2 : y + (b + d) ≤ x) (hab : a ≤ b) (hcd : c ≤ d) (hc : 1 ≤ c) :
    ∃ X' Y', X' + a * X = b * Y ∧ Y' + d * Y = c * X ∧ LTake X Y X' Y' := by
  have e1 : b * yh = a * xh + x := by rw [hx, hy]; grind
  have e2 : c * xh = d * yh + y := by rw [hx, hy]; grind
  have b1 : a * xl ≤ a * P := Nat.mul_le_mul_left _ (Nat.le_of_lt lx)
  have b2 : d * yl ≤ d * P := Nat.mul_le_mul_left _ (Nat.le_of_lt ly)
  have b3 : (a + c) * xl < (a + c) * P := Nat.mul_lt_mul_of_pos_left lx (by omega)
  have b4 : (y + (a + c)) * P ≤ x * P := Nat.mul_le_mul_right _ (by omega)
  have b5 : d * P ≤ y * P := Nat.mul_le_mul_right _ (by omega)
  rw [Nat.add_mul, Nat.add_mul a c P] at b4
  rw [Nat.add_mul, Nat.add_mul a c P] at b3
  obtain ⟨X', eX'⟩ : ∃ X', X' + a * xl = x * P + b * yl := ⟨x * P + b * yl - a * xl, by omega⟩
  obtain ⟨Y', eY'⟩ : ∃ Y', Y' + d * yl = y * P + c * xl := ⟨y * P + c * xl - d * yl, by omega⟩
  have f1 : X' + a * X = b * Y := by
    rw [eX, eY, Nat.mul_add, Nat.mul_add, ← Nat.mul_assoc, ← Nat.mul_assoc, e1, Nat.add_mul]; omega
  have f2 : Y' + d * Y = c * X := by
    rw [eX, eY, Nat.mul_add, Nat.mul_add, ← Nat.mul_assoc, ← Nat.mul_assoc, e2, Nat.add_mul]; omega
  have g1 : X = d * X' + b * Y' := by
    have k1 : d * (X' + a * X) = d * (b * Y) := by rw [f1]
    have k2 : b * (Y' + d * Y) = b * (c * X) := by rw [f2]
    have k3 : b * c * X = (a * d + 1) * X := by rw [det]
    grind
  have g2 : Y = c * X' + a * Y' := by
    have k1 : c * (X' + a * X) = c * (b * Y) := by rw [f1]
    have k2 : a * (Y' + d * Y) = a * (c * X) := by rw [f2]
    have k3 : b * c * Y = (a * d + 1) * Y := by rw [det]
    grind
  refine ⟨X', Y', f1, f2, ?_, ?_, lehmer_gcd g1 g2 fun g k1 k2 => ⟨dvd_of_sum f1 (Nat.dvd_mul_left_of_dvd k1 _) (Nat.dvd_mul_left_of_dvd k2 _), dvd_of_sum f2 (Nat.dvd_mul_left_of_dvd k2 _) (Nat.dvd_mul_left_of_dvd k1 _)⟩⟩
  · omega
  · rw [g2]
    have := Nat.le_mul_of_pos_left X' (show 0 < c by omega)
    omega

/-- Steps that were taken from xh and yh, to x and y. -/
structure LSteps (xh yh x y a b c d : Nat) (odd : Bool) : Prop where
  hx : xh = d * x + b * y
  hy : yh = c * x + a * y
  even : odd = false → a * d = b * c + 1
  odd : odd = true → b * c = a * d + 1

theorem LSteps.start (x y : Nat) : LSteps x y x y 1 0 0 1 false := ⟨by simp, by simp, by simp, by simp⟩

theorem LSteps.next {xh yh x y a b c d : Nat} {o : Bool} (h : LSteps xh yh x y a b c d o) (_hy : 0 < y) : LSteps xh yh y (x % y) c d (a + x / y * c) (b + x / y * d) (!o) := by
  have e := Nat.div_add_mod x y
  have h1 := h.hx
  have h2 := h.hy
  generalize x / y = q at *
  generalize x % y = r at *
  subst e
  refine ⟨by rw [h1]; grind, by rw [h2]; grind, ?_, ?_⟩
  · intro ho
    have := h.odd (by cases o <;> simp_all)
    grind
  · intro ho
    have := h.even (by cases o <;> simp_all)
    grind

theorem LSteps.d_le {xh yh x y a b c d : Nat} {o : Bool} (h : LSteps xh yh x y a b c d o) (hx : 0 < x) : d ≤ xh := by
  have h1 := h.hx
  have := Nat.le_mul_of_pos_right d hx
  omega

theorem LSteps.sum_le {xh yh x y a b c d : Nat} {o : Bool} (h : LSteps xh yh x y a b c d o) (hx : 0 < x) (hy : 0 < y) : b + d ≤ xh := by
  have h1 := h.hx
  have := Nat.le_mul_of_pos_right d hx
  have := Nat.le_mul_of_pos_right b hy
  omega

theorem LSteps.half {xh yh x y a b c d : Nat} {o : Bool} (h : LSteps xh yh x y a b c d o) (hx : d ≤ x) (hl : xh < 18446744073709551616) : d < 4294967296 := by
  have h1 := h.hx
  have h2 := Nat.mul_le_mul_left d hx
  refine Nat.lt_of_not_le fun hle => ?_
  have h3 := Nat.mul_le_mul hle hle
  omega

end Lm
end Go.Proofs.YtelfjadonlgkiabDoor

/- Package div: Lehmer's steps: less, none, next. -/
namespace Go.Proofs.YtelfjadonlgkiabDoor
open Go.RowKit
open Lm
attribute [local go_sem ↓] Go.wp_at_zero Go.wp_at_succ

/-- A limb and a carry that make a v - b w and the carry ahead. -/
def LessDone (p q : Nat) (c : Int) (w : World) (e : Ending) (w' : World) : Prop :=
  ∃ (l : Nat) (t : Int), e = .returned (.tuple #[.int .u64 (l : Int), .int .i64 t]) ∧ l < 18446744073709551616 ∧ (l : Int) + 18446744073709551616 * t = (p : Int) - q + c ∧ -4294967296 ≤ t ∧ t ≤ 4294967296 ∧ w' = w

theorem less_plain (p q l1 h1 l2 h2 l3 br b2 h3 cu cs l4 m h4 b3 : Nat) (c : Int) (hp : p ≤ 79228162495817593515539431425) (hq : q ≤ 79228162495817593515539431425) (hc1 : -4294967296 ≤ c) (hc2 : c ≤ 4294967296)
    (e1 : p = h1 * 18446744073709551616 + l1) (e2 : q = h2 * 18446744073709551616 + l2) (_ : l1 < 18446744073709551616) (_ : l2 < 18446744073709551616)
    (e3 : l3 + l2 = l1 + br * 18446744073709551616) (e4 : h3 + h2 + br = h1 + b2 * 18446744073709551616) (e5 : l4 + m * 18446744073709551616 = l3 + cu) (e6 : h4 + b3 * 18446744073709551616 = h3 + cs + m)
    (hl4 : l4 < 18446744073709551616) (hh4 : h4 < 18446744073709551616) (hc : (cu = c ∧ cs = 0) ∨ ((cu : Int) = c + 18446744073709551616 ∧ cs = 18446744073709551615 ∧ c < 0)) :
    (l4 : Int) + 18446744073709551616 * wrap64 (h4 : Int) = (p : Int) - q + c ∧ -4294967296 ≤ wrap64 (h4 : Int) ∧ wrap64 (h4 : Int) ≤ 4294967296 := by
  have key : ∃ t : Int, (l4 : Int) + 18446744073709551616 * t = (p : Int) - q + c ∧ ((h4 : Int) = t ∨ (h4 : Int) = t + 18446744073709551616) := by
    have h0 : ∃ s : Int, (l4 : Int) + 18446744073709551616 * ((h4 : Int) + 18446744073709551616 * s) = (p : Int) - q + c := by
      rcases hc with ⟨k1, k2⟩ | ⟨k1, k2, _⟩
      · exact ⟨(b3 : Int) - b2, by omega⟩
      · exact ⟨(b3 : Int) - b2 - 1, by omega⟩
    obtain ⟨s, hs⟩ := h0
    refine ⟨(h4 : Int) + 18446744073709551616 * s, hs, ?_⟩
    have : s = 0 ∨ s = -1 := by omega
    rcases this with rfl | rfl <;> omega
  obtain ⟨t, h1, h2⟩ := key
  have ht1 : -4294967296 ≤ t := by omega
  have ht2 : t ≤ 4294967296 := by omega
  have ew : wrap64 (h4 : Int) = t := by
    unfold wrap64
    omega
  rw [ew]
  exact ⟨h1, ht1, ht2⟩

theorem wrap_carry (c : Int) (hc1 : -4294967296 ≤ c) (hc2 : c ≤ 4294967296) :
    ∃ cu cs : Nat, IntKind.u64.wrap c = (cu : Int) ∧ IntKind.u64.wrap (c / 9223372036854775808) = (cs : Int) ∧ ((cu = c ∧ cs = 0) ∨ ((cu : Int) = c + 18446744073709551616 ∧ cs = 18446744073709551615 ∧ c < 0)) := by
  rw [IntKind.wrap_u64, IntKind.wrap_u64]
  by_cases h0 : 0 ≤ c
  · exact ⟨c.toNat, 0, by omega, by omega, .inl (by omega)⟩
  · exact ⟨(c + 18446744073709551616).toNat, 18446744073709551615, by omega, by omega, .inr (by omega)⟩

set_option maxRecDepth 20000 in
theorem less_any (a v b u : Nat) (c : Int) (w : World) (ha : a < 4294967296) (hv : v < 18446744073709551616) (hb : b < 4294967296) (hu : u < 18446744073709551616) (hc1 : -4294967296 ≤ c) (hc2 : c ≤ 4294967296) :
    Calls Tryd.prog 66 #[.int .u64 a, .int .u64 v, .int .u64 b, .int .u64 u, .int .i64 c] w (LessDone (a * v) (b * u) c w) := by
  have hM1 := Tryd.bits_Mul64 a v (by omega) hv w
  have hM2 := Tryd.bits_Mul64 b u (by omega) hu w
  have hPl : a * v ≤ 79228162495817593515539431425 := Nat.mul_le_mul (Nat.le_sub_one_of_lt ha) (Nat.le_sub_one_of_lt hv)
  have hQl : b * u ≤ 79228162495817593515539431425 := Nat.mul_le_mul (Nat.le_sub_one_of_lt hb) (Nat.le_sub_one_of_lt hu)
  obtain ⟨P, hP⟩ : ∃ P, a * v = P := ⟨_, rfl⟩
  obtain ⟨Q, hQ⟩ : ∃ Q, b * u = Q := ⟨_, rfl⟩
  rw [hP] at hM1 hPl ⊢
  rw [hQ] at hM2 hQl ⊢
  clear hP hQ
  obtain ⟨h1, eh1⟩ : ∃ h1, P / 18446744073709551616 = h1 := ⟨_, rfl⟩
  obtain ⟨l1, el1⟩ : ∃ l1, P % 18446744073709551616 = l1 := ⟨_, rfl⟩
  obtain ⟨h2, eh2⟩ : ∃ h2, Q / 18446744073709551616 = h2 := ⟨_, rfl⟩
  obtain ⟨l2, el2⟩ : ∃ l2, Q % 18446744073709551616 = l2 := ⟨_, rfl⟩
  rw [eh1, el1] at hM1
  rw [eh2, el2] at hM2
  have p1 : P = h1 * 18446744073709551616 + l1 ∧ l1 < 18446744073709551616 ∧ h1 < 18446744073709551616 := by omega
  have p2 : Q = h2 * 18446744073709551616 + l2 ∧ l2 < 18446744073709551616 ∧ h2 < 18446744073709551616 := by omega
  clear eh1 el1 eh2 el2
  obtain ⟨cu, cs, ecu, ecs, hcc⟩ := wrap_carry c hc1 hc2
  have s1 := sub64_z l1 l2
  obtain ⟨q1, q2, q3⟩ := sub_limb l1 l2 0 p1.2.1 p2.2.1 (by omega)
  rw [Nat.sub_zero] at q1 q3
  generalize (l1 + 18446744073709551616 - l2) % 18446744073709551616 = l3 at *
  generalize bor l1 l2 0 = br at *
  have s2 := sub64' h1 h2 br q2
  obtain ⟨r1, r2, r3⟩ := sub_limb h1 h2 br p1.2.2 p2.2.2 q2
  generalize (h1 + 18446744073709551616 - h2 - br) % 18446744073709551616 = h3 at *
  generalize bor h1 h2 br = b2 at *
  have a1 := add64_0 l3 cu
  have t1 : (l3 + cu) % 18446744073709551616 + (l3 + cu) / 18446744073709551616 * 18446744073709551616 = l3 + cu ∧ (l3 + cu) % 18446744073709551616 < 18446744073709551616 ∧ (l3 + cu) / 18446744073709551616 ≤ 1 := by omega
  generalize (l3 + cu) % 18446744073709551616 = l4 at *
  generalize (l3 + cu) / 18446744073709551616 = m at *
  have a2 := add64 h3 cs m t1.2.2
  have t2 : (h3 + cs + m) % 18446744073709551616 + (h3 + cs + m) / 18446744073709551616 * 18446744073709551616 = h3 + cs + m ∧ (h3 + cs + m) % 18446744073709551616 < 18446744073709551616 := by omega
  generalize (h3 + cs + m) % 18446744073709551616 = h4 at *
  generalize (h3 + cs + m) / 18446744073709551616 = b3 at *
  have HF := hide (less_plain P Q l1 h1 l2 h2 l3 br b2 h3 cu cs l4 m h4 b3 c hPl hQl hc1 hc2 p1.1 p2.1 p1.2.1 p2.2.1 (by omega) (by omega) t1.1 t2.1 t1.2.1 t2.2 hcc)
  have HL := hide t1.2.1
  clear p1 p2 hcc q1 q2 q3 r1 r2 r3 t1 t2 hPl hQl
  go_enter Tryd.func66, Tryd.ntmps66
  go_wp2_with fail
  refine hM1.mono ?_
  rintro e w2 ⟨rfl, rfl⟩
  go_wp2_with fail
  refine hM2.mono ?_
  rintro e w2 ⟨rfl, rfl⟩
  clear hM1 hM2
  go_wp2
  go_ret2
  exact ⟨l4, _, rfl, HL.out, HF.out.1, HF.out.2.1, HF.out.2.2, rfl⟩

/-- Steps of Euclid's, as the program holds them. -/
def stv (a b c d : Nat) (o : Bool) : Value := .agg #[.int .u64 a, .int .u64 b, .int .u64 c, .int .u64 d, .bool o]

theorem box5 {w : World} {h : Nat} {a b c d f : Value} {t : TypeId} (e : w.heap[h]? = some (.cells #[a, b, c, d, f] t)) : w.cell? ⟨h, 0, none⟩ = some a ∧ w.cell? ⟨h, 1, none⟩ = some b ∧ w.cell? ⟨h, 2, none⟩ = some c ∧ w.cell? ⟨h, 3, none⟩ = some d ∧ w.cell? ⟨h, 4, none⟩ = some f :=
  ⟨by simp [World.cell?, e], by simp [World.cell?, e], by simp [World.cell?, e], by simp [World.cell?, e], by simp [World.cell?, e]⟩

theorem none_any (a b c d : Nat) (o : Bool) (w : World) : Calls Tryd.prog 50 #[stv a b c d o] w fun e w' => e = .returned (.bool (decide (b = 0))) ∧ Below w.heap.size w w' := by
  unfold stv
  have hb : Below w.heap.size w (w.alloc (.cells #[.int .u64 a, .int .u64 b, .int .u64 c, .int .u64 d, .bool o] 64)) := (Below.refl _ _).alloc (Nat.le_refl _) _
  obtain ⟨_, hc, _, _, _⟩ := box5 (show (w.alloc (.cells #[.int .u64 a, .int .u64 b, .int .u64 c, .int .u64 d, .bool o] 64)).heap[w.heap.size]? = _ from heap_alloc_new ..)
  have hdec : ((b : Int) == 0) = decide (b = 0) := by by_cases h : b = 0 <;> simp [h]
  have HB := hide hb
  clear hb
  go_enter Tryd.func50, Tryd.ntmps50
  go_wp2
  go_ret
  exact ⟨rfl, HB.out⟩

theorem next_any (a b c d q : Nat) (o : Bool) (w : World) (h1 : a + q * c < 18446744073709551616) (h2 : b + q * d < 18446744073709551616) :
    Calls Tryd.prog 64 #[stv a b c d o, .int .u64 q] w fun e w' => e = .returned (stv c d (a + q * c) (b + q * d) (!o)) ∧ Below w.heap.size w w' := by
  unfold stv
  have hb : Below w.heap.size w (w.alloc (.cells #[.int .u64 a, .int .u64 b, .int .u64 c, .int .u64 d, .bool o] 64)) := (Below.refl _ _).alloc (Nat.le_refl _) _
  obtain ⟨c0, c1, c2, c3, c4⟩ := box5 (show (w.alloc (.cells #[.int .u64 a, .int .u64 b, .int .u64 c, .int .u64 d, .bool o] 64)).heap[w.heap.size]? = _ from heap_alloc_new ..)
  obtain ⟨p, hp, ep⟩ : ∃ p : Nat, q * c = p ∧ (q : Int) * (c : Int) = (p : Int) := ⟨q * c, rfl, by rw [Int.natCast_mul]⟩
  obtain ⟨r, hr, er⟩ : ∃ r : Nat, q * d = r ∧ (q : Int) * (d : Int) = (r : Int) := ⟨q * d, rfl, by rw [Int.natCast_mul]⟩
  rw [hp] at h1 ⊢
  rw [hr] at h2 ⊢
  have wp : IntKind.u64.wrap (p : Int) = (p : Int) := by rw [IntKind.wrap_u64]; omega
  have wr : IntKind.u64.wrap (r : Int) = (r : Int) := by rw [IntKind.wrap_u64]; omega
  have ap : (a : Int) + (p : Int) = ((a + p : Nat) : Int) := by omega
  have ar : (b : Int) + (r : Int) = ((b + r : Nat) : Int) := by omega
  clear hp hr
  generalize a + p = ap' at *
  generalize b + r = ar' at *
  have HB := hide (hb.alloc hb.size (.cells #[.int .u64 c, .int .u64 d, .int .u64 ap', .int .u64 ar', .bool (!o)] 64))
  clear hb
  go_enter Tryd.func64, Tryd.ntmps64
  go_wp2
  go_returns
  exact ⟨rfl, HB.out⟩

end Go.Proofs.YtelfjadonlgkiabDoor

/- Package div: Lehmer's steps of two numbers' highest bits. -/
namespace Go.Proofs.YtelfjadonlgkiabDoor
open Go.RowKit
open Lm
attribute [local go_sem ↓] Go.wp_at_zero Go.wp_at_succ

/-- Steps that are taken for sure. -/
structure LAcc (x y a b c d : Nat) : Prop where
  ab : a ≤ b
  cd : c ≤ d
  c1 : 1 ≤ c
  b1 : 1 ≤ b
  bd : b ≤ d
  dy : d ≤ y
  xy : y + (b + d) ≤ x

def LTop (xh yh x y a b c d : Nat) (o : Bool) : Prop :=
  LSteps xh yh x y a b c d o ∧ ((a = 1 ∧ b = 0 ∧ c = 0 ∧ d = 1 ∧ y ≤ x) ∨ LAcc x y a b c d)

theorem LTop.next {xh yh x y a b c d : Nat} {o : Bool} (h : LTop xh yh x y a b c d o) (hy : 0 < y) :
    LSteps xh yh y (x % y) c d (a + x / y * c) (b + x / y * d) (!o) ∧ c ≤ d ∧ a + x / y * c ≤ b + x / y * d ∧ 1 ≤ a + x / y * c ∧ 1 ≤ d ∧ d ≤ b + x / y * d ∧ y ≤ x := by
  have hs := h.1.next hy
  have hyx : y ≤ x := by
    rcases h.2 with ⟨_, _, _, _, h5⟩ | h2
    · exact h5
    · have := h2.xy; omega
  have hq : 1 ≤ x / y := (Nat.le_div_iff_mul_le hy).2 (by omega)
  refine ⟨hs, ?_⟩
  rcases h.2 with ⟨rfl, rfl, rfl, rfl, _⟩ | h2
  · generalize x / y = q at *
    refine ⟨by omega, by omega, by omega, by omega, by omega, hyx⟩
  · have p1 : x / y * c ≤ x / y * d := Nat.mul_le_mul_left _ h2.cd
    have p2 : c ≤ x / y * c := Nat.le_mul_of_pos_left _ hq
    have p3 : d ≤ x / y * d := Nat.le_mul_of_pos_left _ hq
    have := h2.ab
    have := h2.cd
    have := h2.c1
    generalize x / y * c = u at *
    generalize x / y * d = v at *
    exact ⟨h2.cd, by omega, by omega, by omega, by omega, hyx⟩

/-- What stepsOf answers. -/
def StepsDone (xh yh : Nat) (w : World) (e : Ending) (w' : World) : Prop :=
  (∃ (a b c d : Nat) (o : Bool), e = .returned (stv a b c d o) ∧ (b = 0 ∨ (∃ x y, LSteps xh yh x y a b c d o ∧ LAcc x y a b c d) ∧ d < 4294967296)) ∧ Below w.heap.size w w'

def stc (a b c d : Nat) (o : Bool) : Array Value := #[.int .u64 a, .int .u64 b, .int .u64 c, .int .u64 d, .bool o]

theorem box5f {w : World} {h : Nat} {a b c d f : Value} {t : TypeId} (e : w.heap[h]? = some (.cells #[a, b, c, d, f] t)) : ∀ k, w.frozen? ⟨h, k, none⟩ = false := fun k => by simp [World.frozen?, e]

theorem box5_all {w : World} {h : Nat} {a b c d f a' b' c' d' f' : Value} {t : TypeId} (e : w.heap[h]? = some (.cells #[a, b, c, d, f] t)) :
    (((((w.setCell ⟨h, 0, none⟩ a').setCell ⟨h, 1, none⟩ b').setCell ⟨h, 2, none⟩ c').setCell ⟨h, 3, none⟩ d').setCell ⟨h, 4, none⟩ f').heap[h]? = some (.cells #[a', b', c', d', f'] t) :=
  box_modify (box_modify (box_modify (box_modify (box_modify e a') b') c') d') f'

theorem box_other {w : World} {h g o : Nat} {x : Obj} {v : Value} (e : w.heap[h]? = some x) (hne : h ≠ g) : (w.setCell ⟨g, o, none⟩ v).heap[h]? = some x := by
  rw [Below.heap_setCell _ _ _ _ hne]; exact e

theorem cell_up' {w w' : World} {g o : Nat} {v : Value} (hb : Below w.heap.size w w') (h : w.cell? ⟨g, o, none⟩ = some v) : w'.cell? ⟨g, o, none⟩ = some v := by
  rw [hb.cell (p := ⟨g, o, none⟩) ?_]
  · exact h
  · show g < w.heap.size
    rcases Nat.lt_or_ge g w.heap.size with h' | h'
    · exact h'
    · simp [World.cell?, Array.getElem?_eq_none h'] at h

theorem longer_kept {w w2 : World} {o : Obj} (hb : Below (w.alloc o).drew.heap.size (w.alloc o).drew w2) : w2.heap[w.heap.size]? = some o := by
  rw [hb.block w.heap.size (by show w.heap.size < (w.alloc o).heap.size; rw [World.size_alloc]; omega)]
  exact heap_alloc_new ..

theorem lt_of_block' {w : World} {g : Nat} {x : Obj} (h : w.heap[g]? = some x) : g < w.heap.size := by
  rcases Nat.lt_or_ge g w.heap.size with h' | h'
  · exact h'
  · simp [Array.getElem?_eq_none h'] at h

theorem alloc_kept {w : World} {g : Nat} {x o : Obj} (h : w.heap[g]? = some x) : (w.alloc o).heap[g]? = some x := by
  have hb : Below w.heap.size w (w.alloc o) := (Below.refl _ _).alloc (Nat.le_refl _) _
  rw [hb.block g (lt_of_block' h)]; exact h

theorem kindA {wr w2 W0 : World} {B : Nat} (h0 : Below wr.heap.size wr W0) (hb2 : Below W0.heap.size W0 w2) (hlt : B + 1 < wr.heap.size) (o : Obj) :
    ∃ g : Nat, Value.pointer (some ⟨w2.heap.size, 0, none⟩) = Value.pointer (some ⟨g, 0, none⟩) ∧ g ≠ B ∧ g ≠ B + 1 ∧ (w2.alloc o).heap[g]? = some o ∧ Below wr.heap.size wr (w2.alloc o) := by
  have hb := h0.trans (hb2.mono h0.size)
  have := hb.size
  exact ⟨w2.heap.size, rfl, by omega, by omega, heap_alloc_new .., hb.alloc hb.size _⟩

theorem kindB {wr w2 W0 : World} {B : Nat} (h0 : Below wr.heap.size wr W0) (hb2 : Below W0.heap.size W0 w2) (hlt : B + 1 < wr.heap.size) {a b c d f a' b' c' d' f' : Value} {t : TypeId} (hk : w2.heap[wr.heap.size]? = some (.cells #[a, b, c, d, f] t)) :
    ∃ g : Nat, Value.pointer (some ⟨wr.heap.size, 0, none⟩) = Value.pointer (some ⟨g, 0, none⟩) ∧ g ≠ B ∧ g ≠ B + 1 ∧ (((((w2.setCell ⟨wr.heap.size, 0, none⟩ a').setCell ⟨wr.heap.size, 1, none⟩ b').setCell ⟨wr.heap.size, 2, none⟩ c').setCell ⟨wr.heap.size, 3, none⟩ d').setCell ⟨wr.heap.size, 4, none⟩ f').heap[g]? = some (.cells #[a', b', c', d', f'] t) ∧
      Below wr.heap.size wr (((((w2.setCell ⟨wr.heap.size, 0, none⟩ a').setCell ⟨wr.heap.size, 1, none⟩ b').setCell ⟨wr.heap.size, 2, none⟩ c').setCell ⟨wr.heap.size, 3, none⟩ d').setCell ⟨wr.heap.size, 4, none⟩ f') := by
  have hb := h0.trans (hb2.mono h0.size)
  exact ⟨wr.heap.size, rfl, by omega, by omega, box5_all hk, ((((hb.setCell (p := ⟨wr.heap.size, 0, none⟩) (Nat.le_refl _) a').setCell (p := ⟨wr.heap.size, 1, none⟩) (Nat.le_refl _) b').setCell (p := ⟨wr.heap.size, 2, none⟩) (Nat.le_refl _) c').setCell (p := ⟨wr.heap.size, 3, none⟩) (Nat.le_refl _) d').setCell (p := ⟨wr.heap.size, 4, none⟩) (Nat.le_refl _) f'⟩

theorem LTop.small {xh yh x y a b c d : Nat} {o : Bool} (h : LTop xh yh x y a b c d o) (hx : xh < 18446744073709551616) : a < 18446744073709551616 ∧ b < 18446744073709551616 ∧ c < 18446744073709551616 ∧ d < 18446744073709551616 := by
  rcases h.2 with ⟨rfl, rfl, rfl, rfl, _⟩ | h2
  · omega
  · have := h.1.d_le (by have := h2.xy; have := h2.b1; omega)
    have := h2.ab
    have := h2.cd
    have := h2.bd
    omega

set_option maxRecDepth 20000 in
set_option maxHeartbeats 1000000 in
theorem stepsOf_any (xh yh : Nat) (w : World) (hx : xh < 18446744073709551616) (hyx : yh ≤ xh) :
    Calls Tryd.prog 48 #[.int .u64 xh, .int .u64 yh] w (StepsDone xh yh w) := by
  obtain ⟨w0, hw0⟩ : ∃ w0, w0 = w.alloc (.cells (stc 0 0 0 0 false) 64) := ⟨_, rfl⟩
  obtain ⟨w1, hw1⟩ : ∃ w1, w1 = w0.alloc (.cells (stc 1 0 0 1 false) 64) := ⟨_, rfl⟩
  have hs0 : w0.heap.size = w.heap.size + 1 := by rw [hw0]; exact World.size_alloc _ _
  have hb0 : Below w.heap.size w w0 := by rw [hw0]; exact (Below.refl _ _).alloc (Nat.le_refl _) _
  have hb1 : Below w.heap.size w w1 := by rw [hw1]; exact hb0.alloc hb0.size _
  have h0 : w0.heap[w.heap.size]? = some (.cells (stc 0 0 0 0 false) 64) := by rw [hw0]; exact heap_alloc_new ..
  have h1 : w1.heap[w0.heap.size]? = some (.cells (stc 1 0 0 1 false) 64) := by rw [hw1]; exact heap_alloc_new ..
  have h10 : w1.heap[w.heap.size]? = some (.cells (stc 0 0 0 0 false) 64) := by
    have hb : Below w0.heap.size w0 w1 := by rw [hw1]; exact (Below.refl _ _).alloc (Nat.le_refl _) _
    rw [hb.block w.heap.size (by omega)]; exact h0
  have HW0 := hide hw0
  have HW1 := hide hw1
  have HB1 := hide hb1
  have H1 := hide h1
  have H10 := hide h10
  rw [hs0] at H1
  have HX := hide hx
  have HTOP0 : Hid (LTop xh yh xh yh 1 0 0 1 false) := hide ⟨LSteps.start _ _, .inl ⟨rfl, rfl, rfl, rfl, hyx⟩⟩
  clear hw0 hw1 hb0 hb1 h0 h1 h10
  go_enter Tryd.func48, Tryd.ntmps48
  go_wp2
  rw [show ((w.alloc (Obj.cells #[.int .u64 0, .int .u64 0, .int .u64 0, .int .u64 0, .bool false] 64)).alloc (Obj.cells #[.int .u64 1, .int .u64 0, .int .u64 0, .int .u64 1, .bool false] 64)) = w1 by rw [HW1.out, HW0.out]; rfl]
  go_loopw [0, 1] (fun X Y wr => ∃ (x y a b c d : Nat) (o : Bool), X = .int .u64 x ∧ Y = .int .u64 y ∧ x < 18446744073709551616 ∧ y < 18446744073709551616 ∧ LTop xh yh x y a b c d o ∧ wr.heap[w.heap.size]? = some (.cells (stc 0 0 0 0 false) 64) ∧ wr.heap[w.heap.size + 1]? = some (.cells (stc a b c d o) 64) ∧ Below w.heap.size w wr) (fun _ Y _ => (intOf Y).toNat)
  case atStart => exact ⟨xh, yh, 1, 0, 0, 1, false, rfl, rfl, hx, by omega, HTOP0.out, H10.out, H1.out, HB1.out⟩
  case round =>
    obtain ⟨x, y, a, b, c, d, o, rfl, rfl, hxl, hyl, htop, r0, r1, hbel⟩ := hrel
    have HTOP := hide htop
    have R0 := hide r0
    have R1 := hide r1
    have BB := hide hbel
    obtain ⟨sa, sb, sc, sd⟩ := htop.small hx
    unfold stc at r0 r1 R0 R1
    obtain ⟨hr0, hr1, hr2, hr3, hr4⟩ := box5 r1
    obtain ⟨hq0, hq1, hq2, hq3, hq4⟩ := box5 r0
    have hqf := box5f r0
    have hrf := box5f r1
    clear HB1 H1 H10 HW0 HW1 HTOP0 hs0
    by_cases hy0 : y = 0
    · subst hy0
      clear htop r0 r1 hbel
      go_wp2
      have HE : Hid (b = 0 ∨ (∃ x y, LSteps xh yh x y a b c d o ∧ LAcc x y a b c d) ∧ d < 4294967296) := by
        rcases HTOP.out.2 with ⟨_, h, _⟩ | h2
        · exact hide (.inl h)
        · exact hide (.inr ⟨⟨_, _, HTOP.out.1, h2⟩, HTOP.out.1.half (by have := h2.xy; have := h2.dy; omega) HX.out⟩)
      have R5 := box5_all R0.out (a' := .int .u64 a) (b' := .int .u64 b) (c' := .int .u64 c) (d' := .int .u64 d) (f' := .bool o)
      have W5 := hide (((((BB.out.setCell (p := ⟨w.heap.size, 0, none⟩) (Nat.le_refl _) (.int .u64 a)).setCell (p := ⟨w.heap.size, 1, none⟩) (Nat.le_refl _) (.int .u64 b)).setCell (p := ⟨w.heap.size, 2, none⟩) (Nat.le_refl _) (.int .u64 c)).setCell (p := ⟨w.heap.size, 3, none⟩) (Nat.le_refl _) (.int .u64 d)).setCell (p := ⟨w.heap.size, 4, none⟩) (Nat.le_refl _) (.bool o))
      generalize ((((wr.setCell ⟨w.heap.size, 0, none⟩ (.int .u64 a)).setCell ⟨w.heap.size, 1, none⟩ (.int .u64 b)).setCell ⟨w.heap.size, 2, none⟩ (.int .u64 c)).setCell ⟨w.heap.size, 3, none⟩ (.int .u64 d)).setCell ⟨w.heap.size, 4, none⟩ (.bool o) = w5 at *
      obtain ⟨hk0, hk1, hk2, hk3, hk4⟩ := box5 R5
      refine bodyPost_ret (v := .agg #[.int .u64 a, .int .u64 b, .int .u64 c, .int .u64 d, .bool o]) (by simp [results, Tryd.results48, go_sem, hk0, hk1, hk2, hk3, hk4]) rfl ?_
      exact ⟨⟨a, b, c, d, o, rfl, HE.out⟩, W5.out⟩
    · have hy : 0 < y := by omega
      have hypos : (0 : Int) < (y : Int) := by omega
      have hz : ((y : Int) == 0) = false := by rw [beq_eq_false_iff_ne]; omega
      obtain ⟨n1, n2, n3, n4, n5, n6, n7⟩ := htop.next hy
      have hdiv : (x : Int) / (y : Int) = ((x / y : Nat) : Int) := by omega
      have hmod : (x : Int) % (y : Int) = ((x % y : Nat) : Int) := by omega
      have hml : x % y < y := Nat.mod_lt _ hy
      have hdl := n1.d_le hy
      have hql : x / y ≤ x := Nat.div_le_self _ _
      have HNX := fun W => next_any a b c d (x / y) o W (by omega) (by omega)
      generalize x / y = q at *
      generalize x % y = r at *
      generalize a + q * c = c' at *
      generalize b + q * d = d' at *
      unfold stv at HNX
      have hlt1 : w.heap.size + 1 < wr.heap.size := lt_of_block R1.out
      have hne1 : ¬ (w.heap.size + 1 = wr.heap.size) := by omega
      have hne2 : ¬ (wr.heap.size = w.heap.size + 1) := by omega
      obtain ⟨ha0, ha1, ha2, ha3, ha4⟩ := box5 (alloc_kept (o := .cells #[.int .u64 0, .int .u64 0, .int .u64 0, .int .u64 0, .bool false] 64) R1.out)
      have wq : IntKind.u64.wrap (q : Int) = (q : Int) := by rw [IntKind.wrap_u64]; omega
      have wr' : IntKind.u64.wrap (r : Int) = (r : Int) := by rw [IntKind.wrap_u64]; omega
      have HN := hide n1
      clear htop r0 r1 hbel n1 hy0
      go_upto_region 3 with fail
      go_cut [6] from 10 to 14 (fun s wx => ∃ g : Nat, s = .pointer (some ⟨g, 0, none⟩) ∧ g ≠ w.heap.size ∧ g ≠ w.heap.size + 1 ∧ wx.heap[g]? = some (.cells #[.int .u64 c, .int .u64 d, .int .u64 c', .int .u64 d', .bool (!o)] 64) ∧ Below wr.heap.size wr wx)
      case first =>
        go_region_with (first | (go_at_call 64; refine (HNX _).mono ?_; rintro e w2 ⟨rfl, hb2⟩; first | (obtain ⟨hl0, hl1, hl2, hl3, hl4⟩ := box5 (longer_kept hb2); have hlf := box5f (longer_kept hb2)) | skip))
        all_goals (go_wp2_with fail; go_meet; first | exact kindA (Below.refl _ _).drew hb2 hlt1 _ | exact kindB ((Below.refl _ _).alloc (Nat.le_refl _) _).drew hb2 hlt1 (longer_kept hb2))
      case rest =>
        obtain ⟨g, rfl, hg1, hg2, hgc, hbx⟩ := hcut
        have S0 := hide ((hbx.block w.heap.size (by omega)).trans R0.out)
        have S1 := hide ((hbx.block (w.heap.size + 1) hlt1).trans R1.out)
        have HGC := hide hgc
        have BX := hide (BB.out.trans (hbx.mono BB.out.size))
        obtain ⟨k0, k1, k2, k3, k4⟩ := box5 hgc
        obtain ⟨m0, m1, m2, m3, m4⟩ := box5 S1.out
        have mf := box5f S1.out
        obtain ⟨z0, z1, z2, z3, z4⟩ := box5 S0.out
        have zf := box5f S0.out
        clear hbx hgc hr0 hr1 hr2 hr3 hr4 hq0 hq1 hq2 hq3 hq4 hqf hrf R0 R1 BB ha0 ha1 ha2 ha3 ha4 HNX
        go_wp2
        go_quiet (fail)
        by_cases t1 : r < d'
        · have t1' : (r : Int) < (d' : Int) := by omega
          go_wp2
          obtain ⟨wd, hwd⟩ : ∃ wd, wd = wc.drewN nq := ⟨_, rfl⟩
          rw [← hwd]
          have R0 := S0
          rw [show wc.heap = wd.heap by rw [hwd]; rfl] at R0
          have BB := hide (show Below w.heap.size w wd by rw [hwd]; exact BX.out.trans (((Same.refl _).drewN _).below _))
          clear hwd
          have HE : Hid (b = 0 ∨ (∃ x y, LSteps xh yh x y a b c d o ∧ LAcc x y a b c d) ∧ d < 4294967296) := by
            rcases HTOP.out.2 with ⟨_, h, _⟩ | h2
            · exact hide (.inl h)
            · exact hide (.inr ⟨⟨_, _, HTOP.out.1, h2⟩, HTOP.out.1.half (by have := h2.xy; have := h2.dy; omega) HX.out⟩)
          have R5 := box5_all R0.out (a' := .int .u64 a) (b' := .int .u64 b) (c' := .int .u64 c) (d' := .int .u64 d) (f' := .bool o)
          have W5 := hide (((((BB.out.setCell (p := ⟨w.heap.size, 0, none⟩) (Nat.le_refl _) (.int .u64 a)).setCell (p := ⟨w.heap.size, 1, none⟩) (Nat.le_refl _) (.int .u64 b)).setCell (p := ⟨w.heap.size, 2, none⟩) (Nat.le_refl _) (.int .u64 c)).setCell (p := ⟨w.heap.size, 3, none⟩) (Nat.le_refl _) (.int .u64 d)).setCell (p := ⟨w.heap.size, 4, none⟩) (Nat.le_refl _) (.bool o))
          generalize ((((wd.setCell ⟨w.heap.size, 0, none⟩ (.int .u64 a)).setCell ⟨w.heap.size, 1, none⟩ (.int .u64 b)).setCell ⟨w.heap.size, 2, none⟩ (.int .u64 c)).setCell ⟨w.heap.size, 3, none⟩ (.int .u64 d)).setCell ⟨w.heap.size, 4, none⟩ (.bool o) = w5 at *
          obtain ⟨hk0, hk1, hk2, hk3, hk4⟩ := box5 R5
          refine bodyPost_ret (v := .agg #[.int .u64 a, .int .u64 b, .int .u64 c, .int .u64 d, .bool o]) (by simp [results, Tryd.results48, go_sem, hk0, hk1, hk2, hk3, hk4]) rfl ?_
          exact ⟨⟨a, b, c, d, o, rfl, HE.out⟩, W5.out⟩
        · have t1' : ¬ ((r : Int) < (d' : Int)) := by omega
          have hsum := HN.out.sum_le hy (show 0 < r by omega)
          obtain ⟨e1, he1, hf1⟩ : ∃ e1 : Nat, (y : Int) - (r : Int) = (e1 : Int) ∧ e1 + r = y := ⟨y - r, by omega, by omega⟩
          obtain ⟨e2, he2, hf2⟩ : ∃ e2 : Nat, (d : Int) + (d' : Int) = (e2 : Int) ∧ d + d' = e2 := ⟨d + d', by omega, rfl⟩
          have hl1 : e1 < 18446744073709551616 := by omega
          have hl2 : e2 < 18446744073709551616 := by omega
          by_cases t2 : e1 < e2
          · have t2' : (e1 : Int) < (e2 : Int) := by omega
            clear hf1 hf2
            go_wp2
            obtain ⟨wd, hwd⟩ : ∃ wd, wd = wc.drewN nq := ⟨_, rfl⟩
            rw [← hwd]
            have R0 := S0
            rw [show wc.heap = wd.heap by rw [hwd]; rfl] at R0
            have BB := hide (show Below w.heap.size w wd by rw [hwd]; exact BX.out.trans (((Same.refl _).drewN _).below _))
            clear hwd
            have HE : Hid (b = 0 ∨ (∃ x y, LSteps xh yh x y a b c d o ∧ LAcc x y a b c d) ∧ d < 4294967296) := by
              rcases HTOP.out.2 with ⟨_, h, _⟩ | h2
              · exact hide (.inl h)
              · exact hide (.inr ⟨⟨_, _, HTOP.out.1, h2⟩, HTOP.out.1.half (by have := h2.xy; have := h2.dy; omega) HX.out⟩)
            have R5 := box5_all R0.out (a' := .int .u64 a) (b' := .int .u64 b) (c' := .int .u64 c) (d' := .int .u64 d) (f' := .bool o)
            have W5 := hide (((((BB.out.setCell (p := ⟨w.heap.size, 0, none⟩) (Nat.le_refl _) (.int .u64 a)).setCell (p := ⟨w.heap.size, 1, none⟩) (Nat.le_refl _) (.int .u64 b)).setCell (p := ⟨w.heap.size, 2, none⟩) (Nat.le_refl _) (.int .u64 c)).setCell (p := ⟨w.heap.size, 3, none⟩) (Nat.le_refl _) (.int .u64 d)).setCell (p := ⟨w.heap.size, 4, none⟩) (Nat.le_refl _) (.bool o))
            generalize ((((wd.setCell ⟨w.heap.size, 0, none⟩ (.int .u64 a)).setCell ⟨w.heap.size, 1, none⟩ (.int .u64 b)).setCell ⟨w.heap.size, 2, none⟩ (.int .u64 c)).setCell ⟨w.heap.size, 3, none⟩ (.int .u64 d)).setCell ⟨w.heap.size, 4, none⟩ (.bool o) = w5 at *
            obtain ⟨hk0, hk1, hk2, hk3, hk4⟩ := box5 R5
            refine bodyPost_ret (v := .agg #[.int .u64 a, .int .u64 b, .int .u64 c, .int .u64 d, .bool o]) (by simp [results, Tryd.results48, go_sem, hk0, hk1, hk2, hk3, hk4]) rfl ?_
            exact ⟨⟨a, b, c, d, o, rfl, HE.out⟩, W5.out⟩
          · have t2' : ¬ ((e1 : Int) < (e2 : Int)) := by omega
            have HACC : Hid (LTop xh yh y r c d c' d' (!o)) := hide ⟨HN.out, .inr ⟨n2, n3, n4, n5, n6, by omega, by omega⟩⟩
            clear hf1 hf2
            go_wp2
            go_roundw
            case rel =>
              refine ⟨y, r, c, d, c', d', !o, rfl, by rw [hmod], hyl, by omega, HACC.out, ?_, ?_, ?_⟩
              · exact box_other (box_other (box_other (box_other (box_other S0.out (by omega)) (by omega)) (by omega)) (by omega)) (by omega)
              · exact box5_all S1.out
              · exact (((((BX.out.trans (((Same.refl _).drewN _).below _)).setCell (p := ⟨w.heap.size + 1, 0, none⟩) (by show w.heap.size ≤ w.heap.size + 1; omega) _).setCell (p := ⟨w.heap.size + 1, 1, none⟩) (by show w.heap.size ≤ w.heap.size + 1; omega) _).setCell (p := ⟨w.heap.size + 1, 2, none⟩) (by show w.heap.size ≤ w.heap.size + 1; omega) _).setCell (p := ⟨w.heap.size + 1, 3, none⟩) (by show w.heap.size ≤ w.heap.size + 1; omega) _).setCell (p := ⟨w.heap.size + 1, 4, none⟩) (by show w.heap.size ≤ w.heap.size + 1; omega) _
            case measure => simp [intOf]; omega

end Go.Proofs.YtelfjadonlgkiabDoor

/- Package div: the highest bits of two numbers. -/
namespace Go.Proofs.YtelfjadonlgkiabDoor
open Go.RowKit
open Lm
attribute [local go_sem ↓] Go.wp_at_zero Go.wp_at_succ

theorem limbI_nat (X : List Nat) (k : Nat) : limbI X (k : Int) = X.getD k 0 := by
  unfold limbI; rw [if_neg (by omega), Int.toNat_natCast]

set_option maxRecDepth 20000 in
set_option maxHeartbeats 1000000 in
theorem highAt_any (ao : Option Addr) (cap : Nat) (X : List Nat) (n s i j gn gs : Nat) (w : World) (hX : X.length ≤ 1125899906842624) (hl : Lies w ao X) (hL : Limbs X) (hi : n = i + 1) (hj : i = j + 1) (hn : n ≤ 1125899906842624) (hs : s < 64)
    (hcn : w.cell? ⟨gn, 0, none⟩ = some (.int .i64 (n : Int))) (hcs : w.cell? ⟨gs, 0, none⟩ = some (.int .i64 (s : Int))) (htop : X.getD i 0 * 2 ^ s < 18446744073709551616) (_ : X.getD i 0 * 2 ^ s + X.getD j 0 / 2 ^ (64 - s) < 18446744073709551616) :
    Calls Tryd.prog 65 #[.slice ao X.length cap, .pointer (some ⟨gn, 0, none⟩), .pointer (some ⟨gs, 0, none⟩)] w fun e w' => e = .returned (.int .u64 ((X.getD i 0 * 2 ^ s + X.getD j 0 / 2 ^ (64 - s) : Nat) : Int)) ∧ Same w w' := by
  have D1 := fun (w' : World) (h : Lies w' ao X) => dlimb_any ao cap X (i : Int) w' hX (by omega) (by omega) h
  have D2 := fun (w' : World) (h : Lies w' ao X) => dlimb_any ao cap X (j : Int) w' hX (by omega) (by omega) h
  rw [limbI_nat] at D1 D2
  have e1 : (n : Int) - 1 = (i : Int) := by omega
  have e2 : (n : Int) - 2 = (j : Int) := by omega
  have wi : IntKind.i64.wrap (i : Int) = (i : Int) := by rw [IntKind.wrap_i64]; omega
  have wj : IntKind.i64.wrap (j : Int) = (j : Int) := by rw [IntKind.wrap_i64]; omega
  have hlo := limb_lt hL j
  have hhi := limb_lt hL i
  generalize X.getD i 0 = hi' at *
  generalize X.getD j 0 = lo at *
  have hl1 := shr_lt lo s (by omega) hlo
  have r4 := wrap_mul hi' s (hi' * 2 ^ s) (Nat.mod_eq_of_lt htop)
  have r7 := or_add hi' s (lo / 2 ^ (64 - s)) (hi' * 2 ^ s + lo / 2 ^ (64 - s)) (by omega) hl1 htop rfl
  have r6 := walk_shr lo (64 - s)
  have r5 : (64 : Int) - (s : Int) = ((64 - s : Nat) : Int) := by omega
  have ht : 64 - s ≤ 64 := by omega
  generalize hU : hi' * 2 ^ s + lo / 2 ^ (64 - s) = U at *
  generalize lo / 2 ^ (64 - s) = l1 at *
  generalize 64 - s = t at *
  have wt : IntKind.i64.wrap (t : Int) = (t : Int) := by rw [IntKind.wrap_i64]; omega
  generalize hi' * 2 ^ s = h1 at *
  have HLL : Hid (∀ w', Same w w' → Lies w' ao X) := fun w' h => hl.below (h.below _)
  have Q1 : ∀ k, Calls Tryd.prog 37 #[.slice ao X.length cap, .int .i64 (i : Int)] (w.drewN k) fun e w' => e = .returned (.int .u64 (hi' : Int)) ∧ w' = w.drewN k := fun k => D1 _ (HLL.out _ ((Same.refl _).drewN k))
  have Q2 : ∀ k, Calls Tryd.prog 37 #[.slice ao X.length cap, .int .i64 (j : Int)] (w.drewN k) fun e w' => e = .returned (.int .u64 (lo : Int)) ∧ w' = w.drewN k := fun k => D2 _ (HLL.out _ ((Same.refl _).drewN k))
  clear D1 D2 hl hi hj hU hL
  go_enter Tryd.func65, Tryd.ntmps65
  go_wp2
  go_quiet (first | (go_at_call_of 37 i; exact (Q1 _).mono (fun _ _ h => ⟨h.1, _, h.2⟩)) | (go_at_call 37; exact (Q2 _).mono (fun _ _ h => ⟨h.1, _, h.2⟩)))
  go_wp2
  go_ret
  exact ⟨rfl, (Same.refl _).drewN _⟩

/-- A number by its highest bits, and what is left. -/
theorem high_split (X : List Nat) (j s : Nat) (hL : Limbs X) (hlen : X.length ≤ j + 2) (hs : s < 64) :
    ∃ xl, val X = (X.getD (j + 1) 0 * 2 ^ s + X.getD j 0 / 2 ^ (64 - s)) * (18446744073709551616 ^ j * 2 ^ (64 - s)) + xl ∧ xl < 18446744073709551616 ^ j * 2 ^ (64 - s) := by
  have e1 : val X = val (X.take j) + 18446744073709551616 ^ j * X.getD j 0 + 18446744073709551616 ^ (j + 1) * X.getD (j + 1) 0 := by
    rw [← val_take_next, ← val_take_next, List.take_of_length_le hlen]
  have e2 : (18446744073709551616 : Nat) = 2 ^ s * 2 ^ (64 - s) := by rw [← Nat.pow_add, show s + (64 - s) = 64 by omega]
  have h3 : val (X.take j) < 18446744073709551616 ^ j := by
    have h1 : Limbs (X.take j) := fun z hz => hL z (List.mem_of_mem_take hz)
    exact Nat.lt_of_lt_of_le (val_lt h1) (Nat.pow_le_pow_right (by omega) (by simp; omega))
  have h4 := Nat.div_add_mod (X.getD j 0) (2 ^ (64 - s))
  have h5 := Nat.mod_lt (X.getD j 0) (Nat.two_pow_pos (64 - s))
  refine ⟨val (X.take j) + 18446744073709551616 ^ j * (X.getD j 0 % 2 ^ (64 - s)), ?_, ?_⟩
  · rw [e1, Nat.pow_succ]
    generalize (18446744073709551616 : Nat) ^ j = B at *
    generalize X.getD (j + 1) 0 = h at *
    generalize X.getD j 0 = l at *
    have e3 : B * 18446744073709551616 * h = B * (2 ^ s * 2 ^ (64 - s)) * h := by rw [← e2]
    rw [e3]
    generalize 2 ^ (64 - s) = Q at *
    generalize 2 ^ s = S at *
    generalize l / Q = q at *
    generalize l % Q = r at *
    subst h4
    grind
  · generalize (18446744073709551616 : Nat) ^ j = B at *
    generalize X.getD j 0 % 2 ^ (64 - s) = r at *
    generalize 2 ^ (64 - s) = Q at *
    have h6 : B * (r + 1) ≤ B * Q := Nat.mul_le_mul_left _ h5
    rw [Nat.mul_add, Nat.mul_one] at h6
    omega

theorem top_fits {h s : Nat} (hs : s < 64) (hh : h * 2 ^ s < 18446744073709551616) (l : Nat) (hl : l < 18446744073709551616) : h * 2 ^ s + l / 2 ^ (64 - s) < 18446744073709551616 := by
  have e2 : (18446744073709551616 : Nat) = 2 ^ s * 2 ^ (64 - s) := by rw [← Nat.pow_add, show s + (64 - s) = 64 by omega]
  have h1 := shr_lt l s (by omega) hl
  have h2 : h < 2 ^ (64 - s) := by
    rw [e2, Nat.mul_comm (2 ^ s)] at hh
    exact Nat.lt_of_mul_lt_mul_right hh
  have h3 : (h + 1) * 2 ^ s ≤ 2 ^ (64 - s) * 2 ^ s := Nat.mul_le_mul_right _ h2
  rw [Nat.mul_comm (2 ^ (64 - s)), ← e2, Nat.add_mul, Nat.one_mul] at h3
  omega

/-- What highBits answers: both numbers through one power of two. -/
def HighDone (x y : Nat) (w : World) (e : Ending) (w' : World) : Prop :=
  (∃ xh yh xl yl Pw : Nat, e = .returned (.tuple #[.int .u64 (xh : Int), .int .u64 (yh : Int)]) ∧ x = xh * Pw + xl ∧ y = yh * Pw + yl ∧ xl < Pw ∧ yl < Pw ∧ xh < 18446744073709551616 ∧ yh ≤ xh) ∧ Below w.heap.size w w'

set_option maxRecDepth 20000 in
set_option maxHeartbeats 1000000 in
theorem highBits_any (bx ox capx : Nat) (ay : Option Addr) (capy : Nat) (X Y : List Nat) (w : World) (hlx : Lies w (some ⟨bx, ox, none⟩) X) (hly : Lies w ay Y) (hLX : Limbs X) (hLY : Limbs Y) (hX : X.length ≤ 1125899906842624) (htx : tr X = X) (h2 : 2 ≤ X.length) (hle : val Y ≤ val X) (hYl : Y.length ≤ X.length) :
    Calls Tryd.prog 49 #[.slice (some ⟨bx, ox, none⟩) X.length capx, .slice ay Y.length capy] w (HighDone (val X) (val Y) w) := by
  obtain ⟨n, hn⟩ : ∃ n, X.length = n := ⟨_, rfl⟩
  obtain ⟨i, hi⟩ : ∃ i, n = i + 1 := ⟨n - 1, by omega⟩
  obtain ⟨j, hj⟩ : ∃ j, i = j + 1 := ⟨i - 1, by omega⟩
  have htop := tr_last' X i htx (by omega)
  have hyt := limb_lt hLX i
  obtain ⟨n1, n2, n3, n4⟩ := norm_y (X.getD i 0) (by omega) hyt
  obtain ⟨s, hs⟩ : ∃ s, s = 64 - Lib.bitLen (X.getD i 0) := ⟨_, rfl⟩
  have hsI : (64 : Int) - (Lib.bitLen (X.getD i 0) : Int) = (s : Int) := by omega
  rw [← hs] at n3 n4
  have hs63 : s < 64 := by omega
  have HLZ := fun W => Tryd.bits_LeadingZeros64 ((X.getD i 0 : Nat) : Int) W (by omega) (by omega)
  rw [Int.toNat_natCast, hsI] at HLZ
  obtain ⟨xl, ex1, ex2⟩ := high_split X j s hLX (by omega) hs63
  obtain ⟨yl, ey1, ey2⟩ := high_split Y j s hLY (by omega) hs63
  have hylt : Y.getD i 0 ≤ X.getD i 0 := by
    have k1 : val X < (X.getD i 0 + 1) * 18446744073709551616 ^ i := by
      have e : val X = val (X.take i) + 18446744073709551616 ^ i * X.getD i 0 := by rw [← val_take_next, List.take_of_length_le (by omega)]
      have h3 : val (X.take i) < 18446744073709551616 ^ i := Nat.lt_of_lt_of_le (val_lt (fun z hz => hLX z (List.mem_of_mem_take hz))) (Nat.pow_le_pow_right (by omega) (by simp; omega))
      rw [e, Nat.add_mul, Nat.one_mul, Nat.mul_comm (X.getD i 0)]; omega
    have k2 : 18446744073709551616 ^ i * Y.getD i 0 ≤ val Y := by
      have e : val Y = val (Y.take i) + 18446744073709551616 ^ i * Y.getD i 0 := by rw [← val_take_next, List.take_of_length_le (by omega)]
      omega
    refine Nat.le_of_not_lt fun hlt => ?_
    have k3 : (X.getD i 0 + 1) * 18446744073709551616 ^ i ≤ Y.getD i 0 * 18446744073709551616 ^ i := Nat.mul_le_mul_right _ hlt
    rw [Nat.mul_comm (Y.getD i 0)] at k3
    omega
  have hyn : Y.getD i 0 * 2 ^ s < 18446744073709551616 := Nat.lt_of_le_of_lt (Nat.mul_le_mul_right _ hylt) n4
  have fx := top_fits hs63 n4 (X.getD j 0) (limb_lt hLX j)
  have fy := top_fits hs63 hyn (Y.getD j 0) (limb_lt hLY j)
  rw [← hj] at ex1 ey1
  have hyx : Y.getD i 0 * 2 ^ s + Y.getD j 0 / 2 ^ (64 - s) ≤ X.getD i 0 * 2 ^ s + X.getD j 0 / 2 ^ (64 - s) := by
    generalize Y.getD i 0 * 2 ^ s + Y.getD j 0 / 2 ^ (64 - s) = yh at *
    generalize X.getD i 0 * 2 ^ s + X.getD j 0 / 2 ^ (64 - s) = xh at *
    generalize 18446744073709551616 ^ j * 2 ^ (64 - s) = Q at *
    refine Nat.le_of_not_lt fun hlt => ?_
    have := Nat.mul_le_mul_right Q hlt
    rw [Nat.succ_mul] at this
    omega
  have HF := hide (And.intro ex1 (And.intro ey1 (And.intro ex2 (And.intro ey2 (And.intro fx hyx)))))
  have C1 := fun gn gs W hl => highAt_any (some ⟨bx, ox, none⟩) capx X n s i j gn gs W hX hl hLX hi hj (by omega) hs63 
  have C2 := fun gn gs W hl => highAt_any ay capy Y n s i j gn gs W (by omega) hl hLY hi hj (by omega) hs63
  have HC1 := hide C1
  have HC2 := hide C2
  have hcell : w.cell? ⟨bx, ox + i, none⟩ = some (.int .u64 ((X.getD i 0 : Nat) : Int)) := by
    rcases hlx with h0 | ⟨b, off, e, hc⟩
    · rw [h0] at hn; simp at hn; omega
    · cases e; exact hc i (by omega)
  obtain ⟨w0, hw0⟩ : ∃ w0, w0 = w.alloc (.cells #[.int .i64 (n : Int)] 3) := ⟨_, rfl⟩
  obtain ⟨w2, hw2⟩ : ∃ w2, w2 = w0.alloc (.cells #[.int .i64 (s : Int)] 3) := ⟨_, rfl⟩
  have hs0 : w0.heap.size = w.heap.size + 1 := by rw [hw0]; exact World.size_alloc _ _
  have hb0 : Below w.heap.size w w0 := by rw [hw0]; exact (Below.refl _ _).alloc (Nat.le_refl _) _
  have hb2 : Below w.heap.size w w2 := by rw [hw2]; exact hb0.alloc hb0.size _
  have h0 : w0.heap[w.heap.size]? = some (.cells #[.int .i64 (n : Int)] 3) := by rw [hw0]; exact heap_alloc_new ..
  have q1 : w2.heap[w.heap.size + 1]? = some (.cells #[.int .i64 (s : Int)] 3) := by
    rw [hw2]
    have h := heap_alloc_new w0 (.cells #[.int .i64 (s : Int)] 3)
    rw [hs0] at h
    exact h
  have q0 : w2.heap[w.heap.size]? = some (.cells #[.int .i64 (n : Int)] 3) := by
    have hb : Below w0.heap.size w0 w2 := by rw [hw2]; exact (Below.refl _ _).alloc (Nat.le_refl _) _
    rw [hb.block w.heap.size (by omega)]; exact h0
  have M1 := HC1.out w.heap.size (w.heap.size + 1) w2 (hlx.below hb2) (by simp [World.cell?, q0]) (by simp [World.cell?, q1]) n4 fx
  have M2 := hide (fun (w3 : World) (h : Same w2 w3) => HC2.out w.heap.size (w.heap.size + 1) w3 ((hly.below hb2).below (h.below _)) (by simp [World.cell?, h.heap, q0]) (by simp [World.cell?, h.heap, q1]) hyn fy)
  have hc0 := cell_up' hb0 hcell
  have hn0 : w0.cell? ⟨w.heap.size, 0, none⟩ = some (.int .i64 (n : Int)) := by simp [World.cell?, h0]
  rw [hw0] at hc0 hn0
  have HW := hide (show (w.alloc (.cells #[.int .i64 (n : Int)] 3)).alloc (.cells #[.int .i64 (s : Int)] 3) = w2 by rw [hw2, hw0])
  have HB2 := hide hb2
  have e1 : (n : Int) - 1 = (i : Int) := by omega
  have k0 : (0 : Int) ≤ (i : Int) := by omega
  have k1 : (i : Int) < (n : Int) := by omega
  have wi : IntKind.i64.wrap (i : Int) = (i : Int) := by rw [IntKind.wrap_i64]; omega
  have hnl : n ≤ 1125899906842624 := by omega
  rw [hn]
  rw [hn] at M1
  generalize X.getD i 0 = y at *
  generalize y * 2 ^ s + X.getD j 0 / 2 ^ (64 - s) = xh at *
  generalize Y.getD i 0 * 2 ^ s + Y.getD j 0 / 2 ^ (64 - s) = yh at *
  clear C1 C2 HC1 HC2 ex1 ex2 ey1 ey2 fx fy hyx hylt htop n1 n2 n3 n4 hs hsI hi hj hlx hly hyn hle hn hw0 hw2 hs0 hb0 hb2 h0 q0 q1 hcell
  go_enter Tryd.func49, Tryd.ntmps49
  go_wp2_with fail
  refine (HLZ _).mono ?_
  rintro e wn ⟨rfl, hw⟩; rw [hw]; clear hw wn HLZ
  go_wp2_with fail
  rw [HW.out]
  refine M1.mono ?_
  rintro e w3 ⟨rfl, hs3⟩
  have M3 := M2.out w3 hs3
  have HS3 := hide hs3
  clear M1 M2 hs3
  go_wp2_with fail
  refine M3.mono ?_
  rintro e w4 ⟨rfl, hs4⟩
  have HB4 := hide ((HB2.out.trans (HS3.out.below _)).trans (hs4.below _))
  clear M3 hs4
  go_wp2
  go_ret2
  obtain ⟨f1, f2, f3, f4, f5, f6⟩ := HF.out
  exact ⟨⟨xh, yh, xl, yl, _, rfl, f1, f2, f3, f4, f5, f6⟩, HB4.out⟩

end Go.Proofs.YtelfjadonlgkiabDoor

/- Package div: Lehmer's steps taken in place. -/
namespace Go.Proofs.YtelfjadonlgkiabDoor
open Go.RowKit
open Lm
attribute [local go_sem ↓] Go.wp_at_zero Go.wp_at_succ

theorem Ans.stored' {w : World} {base g cap : Nat} {zs : List Nat} (h : Ans w base (.slice (some ⟨g, 0, none⟩) zs.length cap) zs) (j z : Nat) (hz : z < 18446744073709551616) : Ans (w.setCell ⟨g, j, none⟩ (.int .u64 (z : Int))) base (.slice (some ⟨g, 0, none⟩) (zs.set j z).length cap) (zs.set j z) := by
  refine ⟨?_, limbs_set h.limbs _ _ hz⟩
  have := (h.own.stored j (.int .u64 (z : Int))).1
  rw [List.length_set, List.map_set]
  exact this

theorem Ans.apart {w : World} {base : Nat} {v : Value} {zs : List Nat} (h : Ans w base v zs) (g o : Nat) (u : Value) (hne : v.ownBlock ≠ some g) : Ans (w.setCell ⟨g, o, none⟩ u) base v zs :=
  ⟨ownsRow_setCell_other h.own hne _, h.limbs⟩

/-- The carry of one more limb. -/
theorem take_step {A B P : Int} {vo va vb x a b cy cy2 l : Int} (h : vo + P * cy = A * va - B * vb) (hl : l + 18446744073709551616 * cy2 = A * a - B * b + cy) (_ : x = 0) :
    vo + P * l + P * 18446744073709551616 * cy2 = A * (va + P * a) - B * (vb + P * b) := by
  have h1 : P * (l + 18446744073709551616 * cy2) = P * (A * a - B * b + cy) := by rw [hl]
  grind

theorem castStep (a k z : Nat) : ((a + 18446744073709551616 ^ k * z : Nat) : Int) = (a : Int) + (18446744073709551616 : Int) ^ k * (z : Int) := by
  rw [Int.natCast_add, Int.natCast_mul, Int.natCast_pow]; rfl

/-- Both lists hold what the steps make of them, as far as y's limbs go. -/
structure Took (w w' : World) (base gx cx gy cy : Nat) (X Y X' Y' : List Nat) (k : Nat) (p q r s : Int) (over under : Int) : Prop where
  lx : X'.length = X.length
  ly : Y'.length = Y.length
  ax : Ans w' base (.slice (some ⟨gx, 0, none⟩) X'.length cx) X'
  ay : Ans w' base (.slice (some ⟨gy, 0, none⟩) Y'.length cy) Y'
  sx : ∀ i, k ≤ i → X'.getD i 0 = X.getD i 0
  sy : ∀ i, k ≤ i → Y'.getD i 0 = Y.getD i 0
  o1 : -4294967296 ≤ over
  o2 : over ≤ 4294967296
  u1 : -4294967296 ≤ under
  u2 : under ≤ 4294967296
  vx : (val (X'.take k) : Int) + 18446744073709551616 ^ k * over = p * val (X.take k) - q * val (Y.take k)
  vy : (val (Y'.take k) : Int) + 18446744073709551616 ^ k * under = r * val (Y.take k) - s * val (X.take k)
  bel : Below base w w'

def TakeDone (base gx cx gy cy : Nat) (X Y : List Nat) (p q r s : Int) (w : World) (e : Ending) (w' : World) : Prop :=
  e = .returned (.tuple #[]) ∧ ∃ X' Y' over under, Took w w' base gx cx gy cy X Y X' Y' Y.length p q r s over under

theorem Took.next {w w' : World} {base gx cx gy cy : Nat} {X Y X' Y' : List Nat} {k : Nat} {p q r s over under : Int} (h : Took w w' base gx cx gy cy X Y X' Y' k p q r s over under) (hne : gx ≠ gy) (hk : k < Y.length) (hxy : Y.length ≤ X.length) (hbx : base ≤ gx) (hby : base ≤ gy)
    {l m : Nat} {o' u' : Int} (hl : l < 18446744073709551616) (hm : m < 18446744073709551616) (e1 : (l : Int) + 18446744073709551616 * o' = p * X.getD k 0 - q * Y.getD k 0 + over) (e2 : (m : Int) + 18446744073709551616 * u' = r * Y.getD k 0 - s * X.getD k 0 + under)
    (b1 : -4294967296 ≤ o') (b2 : o' ≤ 4294967296) (b3 : -4294967296 ≤ u') (b4 : u' ≤ 4294967296) :
    Took w ((w'.setCell ⟨gx, k, none⟩ (.int .u64 (l : Int))).setCell ⟨gy, k, none⟩ (.int .u64 (m : Int))) base gx cx gy cy X Y (X'.set k l) (Y'.set k m) (k + 1) p q r s o' u' := by
  have lx := h.lx
  have ly := h.ly
  have n1 : ∀ (z : List Nat) (i v : Nat), k + 1 ≤ i → (z.set k v).getD i 0 = z.getD i 0 := by
    intro z i v hi
    simp only [List.getD, List.getElem?_set]
    rw [if_neg (by omega)]
  refine ⟨by rw [List.length_set, lx], by rw [List.length_set, ly], ?_, ?_, fun i hi => by rw [n1 _ _ _ hi]; exact h.sx i (by omega), fun i hi => by rw [n1 _ _ _ hi]; exact h.sy i (by omega), b1, b2, b3, b4, ?_, ?_, (h.bel.setCell (p := ⟨gx, k, none⟩) hbx _).setCell (p := ⟨gy, k, none⟩) hby _⟩
  · exact (h.ax.stored' k l hl).apart gy k _ (by simp [Value.ownBlock, hne])
  · exact (h.ay.apart gx k _ (by simp [Value.ownBlock, Ne.symm hne])).stored' k m hm
  · rw [take_set_succ _ _ _ (by omega), val_take_next X, val_take_next Y, Int.pow_succ]
    rw [castStep, castStep, castStep]
    exact take_step (x := 0) h.vx e1 rfl
  · rw [take_set_succ _ _ _ (by omega), val_take_next X, val_take_next Y, Int.pow_succ]
    rw [castStep, castStep, castStep]
    exact take_step (x := 0) h.vy e2 rfl

theorem Ans.cellAt {w : World} {base g cap : Nat} {zs : List Nat} (h : Ans w base (.slice (some ⟨g, 0, none⟩) zs.length cap) zs) : (zs.length ≤ cap ∧ cap ≤ 9223372036854775807) ∧ (∀ k, w.frozen? ⟨g, k, none⟩ = false) ∧ ∀ k, k < zs.length → w.cell? ⟨g, k, none⟩ = some (.int .u64 ((zs.getD k 0 : Nat) : Int)) := by
  rcases h.form with ⟨e, _⟩ | ⟨g', cap', e, _, _, h1, h2, h3, h4⟩
  · cases e
  · cases e
    exact ⟨⟨h1, h2⟩, h3, h4⟩

theorem set_other {w : World} {g k g' k' : Nat} {u : Value} (h : g ≠ g') : (w.setCell ⟨g, k, none⟩ u).cell? ⟨g', k', none⟩ = w.cell? ⟨g', k', none⟩ := by
  simp only [World.cell?]
  rw [Below.heap_setCell _ _ _ _ (by exact Ne.symm h)]

/-- A factor, or its negative. -/
def sg : Bool → Nat → Int
  | false, a => (a : Int)
  | true, a => -(a : Int)

set_option maxRecDepth 20000 in
set_option maxHeartbeats 1000000 in
theorem take_even (base gx cx gy cy a b c d : Nat) (X Y : List Nat) (w : World) (hX : Ans w base (.slice (some ⟨gx, 0, none⟩) X.length cx) X) (hY : Ans w base (.slice (some ⟨gy, 0, none⟩) Y.length cy) Y) (hne : gx ≠ gy) (hxy : Y.length ≤ X.length) (hbx : base ≤ gx) (hby : base ≤ gy) (hbw : base ≤ w.heap.size)
    (ha : a < 4294967296) (hb : b < 4294967296) (hc : c < 4294967296) (hd : d < 4294967296) :
    Calls Tryd.prog 51 #[stv a b c d false, .slice (some ⟨gx, 0, none⟩) X.length cx, .slice (some ⟨gy, 0, none⟩) Y.length cy] w (TakeDone base gx cx gy cy X Y (sg false a) (sg false b) (sg false d) (sg false c) w) := by
  unfold stv
  obtain ⟨w0, hw0⟩ : ∃ w0, w0 = w.alloc (.cells #[.int .u64 a, .int .u64 b, .int .u64 c, .int .u64 d, .bool false] 64) := ⟨_, rfl⟩
  have hb0 : Below w.heap.size w w0 := by rw [hw0]; exact (Below.refl _ _).alloc (Nat.le_refl _) _
  have h0 : w0.heap[w.heap.size]? = some (.cells #[.int .u64 a, .int .u64 b, .int .u64 c, .int .u64 d, .bool false] 64) := by rw [hw0]; exact heap_alloc_new ..
  have T0 : Took w w0 base gx cx gy cy X Y X Y 0 (sg false a) (sg false b) (sg false d) (sg false c) 0 0 := ⟨rfl, rfl, hX.below hb0, hY.below hb0, fun _ _ => rfl, fun _ _ => rfl, by omega, by omega, by omega, by omega, by simp [val], by simp [val], hb0.mono hbw⟩
  have hgx : gx ≠ w.heap.size := fun e => by
    have := (hX.own.lt gx rfl).2; omega
  have hgy : gy ≠ w.heap.size := fun e => by
    have := (hY.own.lt gy rfl).2; omega
  have HT0 := hide T0
  have H0 := hide h0
  have HW0 := hide hw0
  clear hX hY hb0 h0 hw0 T0
  go_enter Tryd.func51, Tryd.ntmps51
  go_wp2
  rw [← HW0.out]
  go_loopw [6, 7, 13] (fun ov un i wr => ∃ (k : Nat) (X' Y' : List Nat) (over under : Int), k ≤ Y.length ∧ ov = .int .i64 over ∧ un = .int .i64 under ∧ i = .int .i64 (k : Int) ∧ Took w wr base gx cx gy cy X Y X' Y' k (sg false a) (sg false b) (sg false d) (sg false c) over under ∧ wr.heap[w.heap.size]? = some (.cells #[.int .u64 a, .int .u64 b, .int .u64 c, .int .u64 d, .bool false] 64)) (fun _ _ i _ => Y.length - (intOf i).toNat)
  case atStart => exact ⟨0, X, Y, 0, 0, Nat.zero_le _, rfl, rfl, rfl, HT0.out, H0.out⟩
  case round =>
    obtain ⟨k, X', Y', over, under, hk, rfl, rfl, rfl, htk, hbk⟩ := hrel
    have HTK := hide htk
    have HBK := hide hbk
    have hlx := htk.lx
    have hly := htk.ly
    have ax := htk.ax
    have ay := htk.ay
    rw [hlx] at ax
    rw [hly] at ay
    clear HT0 H0 HW0
    by_cases hkl : k < Y.length
    · have i1 : (k : Int) < (Y.length : Int) := by omega
      have i2 : (k : Int) < (X.length : Int) := by omega
      have i0 : (0 : Int) ≤ (k : Int) := by omega
      have hkb : k < 9223372036854775807 := by
        have := (htk.ay.cellAt).1
        omega
      have wk : IntKind.i64.wrap (k : Int) = (k : Int) := by
        rw [IntKind.wrap_i64]; omega
      have fx := htk.ax.cellAt.2.1
      have fy := htk.ay.cellAt.2.1
      have cxk := htk.ax.cellAt.2.2 k (by omega)
      have cyk := htk.ay.cellAt.2.2 k (by omega)
      rw [htk.sx k (Nat.le_refl _)] at cxk
      rw [htk.sy k (Nat.le_refl _)] at cyk
      have lv : X.getD k 0 < 18446744073709551616 := by have := limb_lt htk.ax.limbs k; rw [htk.sx k (Nat.le_refl _)] at this; exact this
      have lw : Y.getD k 0 < 18446744073709551616 := by have := limb_lt htk.ay.limbs k; rw [htk.sy k (Nat.le_refl _)] at this; exact this
      obtain ⟨s0, s1, s2, s3, s4⟩ := box5 hbk
      obtain ⟨xk, hxk⟩ : ∃ xk, X.getD k 0 = xk := ⟨_, rfl⟩
      obtain ⟨yk, hyk⟩ : ∃ yk, Y.getD k 0 = yk := ⟨_, rfl⟩
      rw [hxk] at cxk lv
      rw [hyk] at cyk lw
      have L1 := fun W => less_any a xk b yk over W (by omega) (by omega) (by omega) (by omega) htk.o1 htk.o2
      have L2 := fun W => less_any d yk c xk under W (by omega) (by omega) (by omega) (by omega) htk.u1 htk.u2
      have HNX := hide (fun l m o' u' => htk.next (l := l) (m := m) (o' := o') (u' := u') hne hkl hxy hbx hby)
      rw [hxk, hyk] at HNX
      clear hxk hyk htk hbk ax ay
      go_wp2_with fail
      refine (L1 _).mono ?_
      rintro e w2 ⟨l, t, rfl, hl, he1, ht1, ht2, hw⟩
      rw [hw]; clear hw w2 L1
      have cyk2 : (wr.setCell ⟨gx, k, none⟩ (.int .u64 (l : Int))).cell? ⟨gy, k, none⟩ = some (.int .u64 (yk : Int)) := by rw [set_other hne]; exact cyk
      have q0 : ∀ i v, wr.cell? ⟨w.heap.size, i, none⟩ = some v → (wr.setCell ⟨gx, k, none⟩ (.int .u64 (l : Int))).cell? ⟨w.heap.size, i, none⟩ = some v := fun i v h => by rw [set_other hgx]; exact h
      have r0 := q0 _ _ s0
      have r1 := q0 _ _ s1
      have r2 := q0 _ _ s2
      have r3 := q0 _ _ s3
      have r4 := q0 _ _ s4
      have HL1 := hide (And.intro hl (And.intro he1 (And.intro ht1 ht2)))
      clear q0 he1 ht1 ht2
      go_wp2_with fail
      refine (L2 _).mono ?_
      rintro e w2 ⟨m, u, rfl, hm, he2, hu1, hu2, hw⟩
      rw [hw]; clear hw w2 L2
      have HL2 := hide (And.intro hm (And.intro he2 (And.intro hu1 hu2)))
      have fy2 : (wr.setCell ⟨gx, k, none⟩ (.int .u64 (l : Int))).frozen? ⟨gy, k, none⟩ = false := by
        simp only [World.frozen?]
        rw [Below.heap_setCell _ _ _ _ (Ne.symm hne)]
        exact fy k
      clear he2 hu1 hu2
      go_wp2
      go_roundw
      case rel =>
        obtain ⟨a1, a2, a3, a4⟩ := HL1.out
        obtain ⟨b1, b2, b3, b4⟩ := HL2.out
        refine ⟨k + 1, _, _, t, u, hkl, rfl, rfl, by go_num, HNX.out l m t u a1 b1 ?_ ?_ a3 a4 b3 b4, ?_⟩
        · rw [a2, Int.natCast_mul, Int.natCast_mul] <;> simp only [sg] <;> grind
        · rw [b2, Int.natCast_mul, Int.natCast_mul] <;> simp only [sg] <;> grind
        · rw [Below.heap_setCell _ _ _ _ (Ne.symm hgy), Below.heap_setCell _ _ _ _ (Ne.symm hgx)]; exact HBK.out
      case measure => simp [intOf]; omega
    · have i1 : ¬ ((k : Int) < (Y.length : Int)) := by omega
      have ek : k = Y.length := by omega
      have HE : Hid (Took w wr base gx cx gy cy X Y X' Y' Y.length (sg false a) (sg false b) (sg false d) (sg false c) over under) := by rw [← ek]; exact HTK
      clear htk hbk ax ay ek
      go_wp2
      go_end0
      exact ⟨rfl, X', Y', over, under, HE.out⟩

set_option maxRecDepth 20000 in
set_option maxHeartbeats 1000000 in
theorem take_odd (base gx cx gy cy a b c d : Nat) (X Y : List Nat) (w : World) (hX : Ans w base (.slice (some ⟨gx, 0, none⟩) X.length cx) X) (hY : Ans w base (.slice (some ⟨gy, 0, none⟩) Y.length cy) Y) (hne : gx ≠ gy) (hxy : Y.length ≤ X.length) (hbx : base ≤ gx) (hby : base ≤ gy) (hbw : base ≤ w.heap.size)
    (ha : a < 4294967296) (hb : b < 4294967296) (hc : c < 4294967296) (hd : d < 4294967296) :
    Calls Tryd.prog 51 #[stv a b c d true, .slice (some ⟨gx, 0, none⟩) X.length cx, .slice (some ⟨gy, 0, none⟩) Y.length cy] w (TakeDone base gx cx gy cy X Y (sg true a) (sg true b) (sg true d) (sg true c) w) := by
  unfold stv
  obtain ⟨w0, hw0⟩ : ∃ w0, w0 = w.alloc (.cells #[.int .u64 a, .int .u64 b, .int .u64 c, .int .u64 d, .bool true] 64) := ⟨_, rfl⟩
  have hb0 : Below w.heap.size w w0 := by rw [hw0]; exact (Below.refl _ _).alloc (Nat.le_refl _) _
  have h0 : w0.heap[w.heap.size]? = some (.cells #[.int .u64 a, .int .u64 b, .int .u64 c, .int .u64 d, .bool true] 64) := by rw [hw0]; exact heap_alloc_new ..
  have T0 : Took w w0 base gx cx gy cy X Y X Y 0 (sg true a) (sg true b) (sg true d) (sg true c) 0 0 := ⟨rfl, rfl, hX.below hb0, hY.below hb0, fun _ _ => rfl, fun _ _ => rfl, by omega, by omega, by omega, by omega, by simp [val], by simp [val], hb0.mono hbw⟩
  have hgx : gx ≠ w.heap.size := fun e => by
    have := (hX.own.lt gx rfl).2; omega
  have hgy : gy ≠ w.heap.size := fun e => by
    have := (hY.own.lt gy rfl).2; omega
  have HT0 := hide T0
  have H0 := hide h0
  have HW0 := hide hw0
  clear hX hY hb0 h0 hw0 T0
  go_enter Tryd.func51, Tryd.ntmps51
  go_wp2
  rw [← HW0.out]
  go_loopw [6, 7, 13] (fun ov un i wr => ∃ (k : Nat) (X' Y' : List Nat) (over under : Int), k ≤ Y.length ∧ ov = .int .i64 over ∧ un = .int .i64 under ∧ i = .int .i64 (k : Int) ∧ Took w wr base gx cx gy cy X Y X' Y' k (sg true a) (sg true b) (sg true d) (sg true c) over under ∧ wr.heap[w.heap.size]? = some (.cells #[.int .u64 a, .int .u64 b, .int .u64 c, .int .u64 d, .bool true] 64)) (fun _ _ i _ => Y.length - (intOf i).toNat)
  case atStart => exact ⟨0, X, Y, 0, 0, Nat.zero_le _, rfl, rfl, rfl, HT0.out, H0.out⟩
  case round =>
    obtain ⟨k, X', Y', over, under, hk, rfl, rfl, rfl, htk, hbk⟩ := hrel
    have HTK := hide htk
    have HBK := hide hbk
    have hlx := htk.lx
    have hly := htk.ly
    have ax := htk.ax
    have ay := htk.ay
    rw [hlx] at ax
    rw [hly] at ay
    clear HT0 H0 HW0
    by_cases hkl : k < Y.length
    · have i1 : (k : Int) < (Y.length : Int) := by omega
      have i2 : (k : Int) < (X.length : Int) := by omega
      have i0 : (0 : Int) ≤ (k : Int) := by omega
      have hkb : k < 9223372036854775807 := by
        have := (htk.ay.cellAt).1
        omega
      have wk : IntKind.i64.wrap (k : Int) = (k : Int) := by
        rw [IntKind.wrap_i64]; omega
      have fx := htk.ax.cellAt.2.1
      have fy := htk.ay.cellAt.2.1
      have cxk := htk.ax.cellAt.2.2 k (by omega)
      have cyk := htk.ay.cellAt.2.2 k (by omega)
      rw [htk.sx k (Nat.le_refl _)] at cxk
      rw [htk.sy k (Nat.le_refl _)] at cyk
      have lv : X.getD k 0 < 18446744073709551616 := by have := limb_lt htk.ax.limbs k; rw [htk.sx k (Nat.le_refl _)] at this; exact this
      have lw : Y.getD k 0 < 18446744073709551616 := by have := limb_lt htk.ay.limbs k; rw [htk.sy k (Nat.le_refl _)] at this; exact this
      obtain ⟨s0, s1, s2, s3, s4⟩ := box5 hbk
      obtain ⟨xk, hxk⟩ : ∃ xk, X.getD k 0 = xk := ⟨_, rfl⟩
      obtain ⟨yk, hyk⟩ : ∃ yk, Y.getD k 0 = yk := ⟨_, rfl⟩
      rw [hxk] at cxk lv
      rw [hyk] at cyk lw
      have L1 := fun W => less_any b yk a xk over W (by omega) (by omega) (by omega) (by omega) htk.o1 htk.o2
      have L2 := fun W => less_any c xk d yk under W (by omega) (by omega) (by omega) (by omega) htk.u1 htk.u2
      have HNX := hide (fun l m o' u' => htk.next (l := l) (m := m) (o' := o') (u' := u') hne hkl hxy hbx hby)
      rw [hxk, hyk] at HNX
      clear hxk hyk htk hbk ax ay
      go_wp2_with fail
      refine (L1 _).mono ?_
      rintro e w2 ⟨l, t, rfl, hl, he1, ht1, ht2, hw⟩
      rw [hw]; clear hw w2 L1
      have cyk2 : (wr.setCell ⟨gx, k, none⟩ (.int .u64 (l : Int))).cell? ⟨gy, k, none⟩ = some (.int .u64 (yk : Int)) := by rw [set_other hne]; exact cyk
      have q0 : ∀ i v, wr.cell? ⟨w.heap.size, i, none⟩ = some v → (wr.setCell ⟨gx, k, none⟩ (.int .u64 (l : Int))).cell? ⟨w.heap.size, i, none⟩ = some v := fun i v h => by rw [set_other hgx]; exact h
      have r0 := q0 _ _ s0
      have r1 := q0 _ _ s1
      have r2 := q0 _ _ s2
      have r3 := q0 _ _ s3
      have r4 := q0 _ _ s4
      have HL1 := hide (And.intro hl (And.intro he1 (And.intro ht1 ht2)))
      clear q0 he1 ht1 ht2
      go_wp2_with fail
      refine (L2 _).mono ?_
      rintro e w2 ⟨m, u, rfl, hm, he2, hu1, hu2, hw⟩
      rw [hw]; clear hw w2 L2
      have HL2 := hide (And.intro hm (And.intro he2 (And.intro hu1 hu2)))
      have fy2 : (wr.setCell ⟨gx, k, none⟩ (.int .u64 (l : Int))).frozen? ⟨gy, k, none⟩ = false := by
        simp only [World.frozen?]
        rw [Below.heap_setCell _ _ _ _ (Ne.symm hne)]
        exact fy k
      clear he2 hu1 hu2
      go_wp2
      go_roundw
      case rel =>
        obtain ⟨a1, a2, a3, a4⟩ := HL1.out
        obtain ⟨b1, b2, b3, b4⟩ := HL2.out
        refine ⟨k + 1, _, _, t, u, hkl, rfl, rfl, by go_num, HNX.out l m t u a1 b1 ?_ ?_ a3 a4 b3 b4, ?_⟩
        · rw [a2, Int.natCast_mul, Int.natCast_mul] <;> simp only [sg] <;> grind
        · rw [b2, Int.natCast_mul, Int.natCast_mul] <;> simp only [sg] <;> grind
        · rw [Below.heap_setCell _ _ _ _ (Ne.symm hgy), Below.heap_setCell _ _ _ _ (Ne.symm hgx)]; exact HBK.out
      case measure => simp [intOf]; omega
    · have i1 : ¬ ((k : Int) < (Y.length : Int)) := by omega
      have ek : k = Y.length := by omega
      have HE : Hid (Took w wr base gx cx gy cy X Y X' Y' Y.length (sg true a) (sg true b) (sg true d) (sg true c) over under) := by rw [← ek]; exact HTK
      clear htk hbk ax ay ek
      go_wp2
      go_end0
      exact ⟨rfl, X', Y', over, under, HE.out⟩

end Go.Proofs.YtelfjadonlgkiabDoor

/- Package div: euclid of any two numbers. -/
namespace Go.Proofs.YtelfjadonlgkiabDoor
open Go.RowKit
open Lm
attribute [local go_sem ↓] Go.wp_at_zero Go.wp_at_succ

/-- What is in place is the number, if that has no more limbs. -/
theorem took_value {n V A B L : Nat} {p q c : Int} (N : Nat) (hn : N = 18446744073709551616 ^ n) (hL : L < N) (hV : V < N) (h : (L : Int) + N * c = p * A - q * B) (R : Nat) (hVe : (V : Int) = p * (A + N * R) - q * B) : L = V := by
  have e : (V : Int) = L + N * (c + p * R) := by
    have : p * ((A : Int) + N * R) - q * B = p * A - q * B + N * (p * R) := by grind
    rw [hVe, this, ← h]; grind
  generalize c + p * R = z at e
  have hz : z = 0 := by
    rcases Int.lt_trichotomy z 0 with h1 | h1 | h1
    · have := Int.mul_le_mul_of_nonneg_left (show z ≤ -1 by omega) (show (0 : Int) ≤ (N : Int) by omega)
      omega
    · exact h1
    · have := Int.mul_le_mul_of_nonneg_left (show 1 ≤ z by omega) (show (0 : Int) ≤ (N : Int) by omega)
      omega
  subst hz
  omega

/-- The front of an answer. -/
theorem Ans.front {w : World} {base g cap : Nat} {zs : List Nat} (h : Ans w base (.slice (some ⟨g, 0, none⟩) zs.length cap) zs) (n : Nat) (hn : n ≤ zs.length) : Ans w base (.slice (some ⟨g, 0, none⟩) n cap) (zs.take n) := by
  refine ⟨?_, fun z hz => h.limbs z (List.mem_of_mem_take hz)⟩
  obtain ⟨_, h2⟩ := h.own
  have e : (zs.take n).length = n := by simp; omega
  refine ⟨by simp, ?_⟩
  rcases h2 with ⟨h1, _⟩ | ⟨g', cap', cur, hv, hg, hh, hnn, hcm, hs, ht⟩
  · cases h1
  · cases hv
    refine .inr ⟨g, cap, cur, by rw [e], hg, hh, by rw [e]; omega, hcm, hs, ?_⟩
    rw [e]
    have e2 : cur.toList.take (n * 1) = (cur.toList.take (zs.length * 1)).take n := by
      rw [List.take_take, Nat.mul_one, Nat.mul_one, Nat.min_eq_left hn]
    rw [e2, ht, List.map_take]

/-- One round of Lehmer's: the numbers in place are those that the steps make. -/
theorem took_round {w w' : World} {base gx cx gy cy : Nat} {X Y X' Y' : List Nat} {a b c d : Nat} {o : Bool} {ov un : Int} (h : Took w w' base gx cx gy cy X Y X' Y' Y.length (sg o a) (sg o b) (sg o d) (sg o c) ov un) (hY : Limbs Y) (hxy : Y.length ≤ X.length)
    {xh yh x y xl yl Pw : Nat} (hs : LSteps xh yh x y a b c d o) (ha : LAcc x y a b c d) (eX : val X = xh * Pw + xl) (eY : val Y = yh * Pw + yl) (lx : xl < Pw) (ly : yl < Pw) :
    ∃ V W, LTake (val X) (val Y) V W ∧ val (X'.take Y.length) = V ∧ val Y' = W := by
  have hYl := val_lt hY
  have hX'l : val (X'.take Y.length) < 18446744073709551616 ^ Y.length := Nat.lt_of_lt_of_le (val_lt (fun z hz => h.ax.limbs z (List.mem_of_mem_take hz))) (Nat.pow_le_pow_right (by omega) (by simp; omega))
  have hY'l : val Y' < 18446744073709551616 ^ Y.length := by rw [← h.ly]; exact val_lt h.ay.limbs
  have eXs : val X = val (X.take Y.length) + 18446744073709551616 ^ Y.length * val (X.drop Y.length) := by
    conv => lhs; rw [← List.take_append_drop Y.length X, val_append]
    rw [List.length_take, Nat.min_eq_left hxy]
  have vx := h.vx
  have vy := h.vy
  rw [List.take_of_length_le (Nat.le_of_eq h.ly), List.take_length] at vy
  rw [List.take_length] at vx
  obtain ⟨N, hN⟩ : ∃ N : Nat, N = 18446744073709551616 ^ Y.length := ⟨_, rfl⟩
  have hNI : (18446744073709551616 : Int) ^ Y.length = (N : Int) := by rw [hN, Int.natCast_pow]; rfl
  rw [hNI] at vx vy
  rw [← hN] at hYl hX'l hY'l eXs
  have key : ∃ V W : Nat, (sg o a * (val X : Int) - sg o b * (val Y : Int) = (V : Int)) ∧ (sg o d * (val Y : Int) - sg o c * (val X : Int) = (W : Int)) ∧ LTake (val X) (val Y) V W := by
    cases o with
    | false =>
      obtain ⟨V, W, f1, f2, f3⟩ := lehmer_even (hs.even rfl) hs.hx hs.hy eX eY lx ly ha.dy ha.xy ha.cd ha.c1
      refine ⟨V, W, ?_, ?_, f3⟩
      · simp only [sg]
        have : ((V + b * val Y : Nat) : Int) = ((a * val X : Nat) : Int) := by rw [f1]
        rw [Int.natCast_add, Int.natCast_mul, Int.natCast_mul] at this
        omega
      · simp only [sg]
        have : ((W + c * val X : Nat) : Int) = ((d * val Y : Nat) : Int) := by rw [f2]
        rw [Int.natCast_add, Int.natCast_mul, Int.natCast_mul] at this
        omega
    | true =>
      obtain ⟨V, W, f1, f2, f3⟩ := lehmer_odd (hs.odd rfl) hs.hx hs.hy eX eY lx ly ha.dy ha.xy ha.ab ha.cd ha.c1
      refine ⟨V, W, ?_, ?_, f3⟩
      · simp only [sg]
        have : ((V + a * val X : Nat) : Int) = ((b * val Y : Nat) : Int) := by rw [f1]
        rw [Int.natCast_add, Int.natCast_mul, Int.natCast_mul] at this
        rw [Int.neg_mul, Int.neg_mul]; omega
      · simp only [sg]
        have : ((W + d * val Y : Nat) : Int) = ((c * val X : Nat) : Int) := by rw [f2]
        rw [Int.natCast_add, Int.natCast_mul, Int.natCast_mul] at this
        rw [Int.neg_mul, Int.neg_mul]; omega
  obtain ⟨V, W, k1, k2, k3⟩ := key
  have hVl : V < N := Nat.lt_of_le_of_lt k3.le hYl
  have hWl : W < N := Nat.lt_trans k3.lt hVl
  refine ⟨V, W, k3, ?_, ?_⟩
  · refine took_value N hN hX'l hVl vx (val (X.drop Y.length)) ?_
    rw [← k1, eXs, Int.natCast_add, Int.natCast_mul]
  · have vy' : (val Y' : Int) + N * un = (-sg o c) * (val (X.take Y.length) : Int) - (-sg o d) * (val Y : Int) := by rw [vy]; grind
    refine took_value N hN hY'l hWl vy' (val (X.drop Y.length)) ?_
    rw [← k2, eXs, Int.natCast_add, Int.natCast_mul]; grind

end Go.Proofs.YtelfjadonlgkiabDoor

/- Package div: euclid, walked. -/
namespace Go.Proofs.YtelfjadonlgkiabDoor
open Go.RowKit
open Lm
attribute [local go_sem ↓] Go.wp_at_zero Go.wp_at_succ

/-- The number that a slice of limbs holds. -/
def rdN (w : World) : Value → Nat
  | .slice (some a) n _ => val ((List.range n).map fun k => match w.cell? ⟨a.block, a.off + k, none⟩ with
    | some v => (intOf v).toNat
    | none => 0)
  | _ => 0

theorem rdN_arg {w : World} {v : Value} {zs : List Nat} (h : Arg w v zs) : rdN w v = val zs := by
  obtain ⟨ao, cap, rfl, _, _, hl⟩ := h.form
  rcases hl with rfl | ⟨b, off, rfl, hc⟩
  · cases ao with
    | none => rfl
    | some a => rfl
  · show val _ = val zs
    congr 1
    apply List.ext_getElem
    · simp
    · intro i h1 h2
      simp only [List.getElem_map, List.getElem_range]
      rw [hc i h2]
      simp [intOf, List.getD, h2]

theorem Ans.few {w : World} {base : Nat} {v : Value} {zs : List Nat} (_ : Ans w base v zs) (n : Nat) (hv : val zs < 18446744073709551616 ^ n) (ht : tr zs = zs) : zs.length ≤ n := by
  have := tr_len_lt zs n hv
  rwa [ht] at this

/-- Where euclid's loop stands. -/
structure EuSt (w wr : World) (base G K : Nat) (vx vy : Value) (X Y : List Nat) : Prop where
  ax : Ans wr base vx X
  ay : Ans wr base vy Y
  tx : tr X = X
  ty : tr Y = Y
  le : val Y ≤ val X
  pos : 0 < val X
  gcd : Nat.gcd (val X) (val Y) = G
  apart : ∀ g, vx.ownBlock = some g → vy.ownBlock ≠ some g
  lx : X.length ≤ K
  bel : Below base w wr
  tab : Tab wr
  bw : base ≤ wr.heap.size

theorem EuSt.ylen {w wr : World} {base G K : Nat} {vx vy : Value} {X Y : List Nat} (h : EuSt w wr base G K vx vy X Y) : Y.length ≤ X.length :=
  h.ay.few _ (Nat.lt_of_le_of_lt h.le (val_lt h.ax.limbs)) h.ty

theorem EuSt.up {w wr w' : World} {base G K : Nat} {vx vy : Value} {X Y : List Nat} (h : EuSt w wr base G K vx vy X Y) (hb : Below wr.heap.size wr w') : EuSt w w' base G K vx vy X Y :=
  ⟨h.ax.below hb, h.ay.below hb, h.tx, h.ty, h.le, h.pos, h.gcd, h.apart, h.lx, h.bel.trans (hb.mono h.bw), h.tab.below hb, Nat.le_trans h.bw hb.size⟩

theorem Tab.base {w w' : World} {base : Nat} (h : Tab w) (hb : Below base w w') (ht : 0 < base) : Tab w' := by
  refine ⟨Nat.lt_of_lt_of_le h.1 hb.size, fun i hi => ?_⟩
  rw [hb.cell (p := ⟨0, i, none⟩) ht]
  exact h.2 i hi

/-- What euclid answers. -/
def EuDone (w : World) (base G : Nat) (e : Ending) (w' : World) : Prop := (∃ v rs, e = .returned v ∧ Ans w' base v rs ∧ tr rs = rs ∧ val rs = G) ∧ Below base w w'

set_option maxRecDepth 20000 in
set_option maxHeartbeats 2000000 in
theorem euclid_any (x y : Nat) (hx : 0 < x) (hy : 0 < y) : EuclidOk x y := by
  intro gx gy base Zx Zy w hBx hLx hBy hLy hne hb1 hb2 hT htb ex ey hfx hfy
  have A1 := hBx.arg_tr hLx (by omega)
  have A2 := hBy.arg_tr hLy (by omega)
  have HC := compare_any _ _ (tr Zx) (tr Zy) w A1 A2
  rw [val_tr, val_tr, ex, ey] at HC
  have N1 : Ans w base (.slice (some ⟨gx, 0, none⟩) (tr Zx).length Zx.length) (tr Zx) := Ans.of_blk hb1 hBx (tr_take Zx) (tr_length_le Zx) (by omega) (limbs_tr hLx)
  have N2 : Ans w base (.slice (some ⟨gy, 0, none⟩) (tr Zy).length Zy.length) (tr Zy) := Ans.of_blk hb2 hBy (tr_take Zy) (tr_length_le Zy) (by omega) (limbs_tr hLy)
  obtain ⟨K, hK1, hK2, hK3⟩ : ∃ K, (tr Zx).length ≤ K ∧ (tr Zy).length ≤ K ∧ K ≤ 17592186044416 := ⟨17592186044416, by have := tr_length_le Zx; omega, by have := tr_length_le Zy; omega, Nat.le_refl _⟩
  have hbw : base ≤ w.heap.size := by have := hBx.lt; omega
  have HTB := hide htb
  obtain ⟨G, hG⟩ : ∃ G, Nat.gcd x y = G := ⟨_, rfl⟩
  rw [hG]
  show Calls Tryd.prog 23 _ w (EuDone w base G)
  by_cases hlt : x < y
  · have ST := hide (show ∀ w1, Same w w1 → EuSt w w1 base G K (.slice (some ⟨gy, 0, none⟩) (tr Zy).length Zy.length) (.slice (some ⟨gx, 0, none⟩) (tr Zx).length Zx.length) (tr Zy) (tr Zx) from fun w1 h1 =>
      ⟨N2.below (h1.below _), N1.below (h1.below _), tr_tr _, tr_tr _, by rw [val_tr, val_tr]; omega, by rw [val_tr]; omega, by rw [val_tr, val_tr, ex, ey, Nat.gcd_comm]; exact hG, fun g e => by cases e; simp [Value.ownBlock, hne], hK2, h1.below _, hT.below (h1.below _), by rw [h1.size]; exact hbw⟩)
    rw [cmpN_lt hlt] at HC
    clear A1 A2 N1 N2 hBx hBy hLx hLy hT htb ex ey hfx hfy hG
    go_enter Tryd.func23, Tryd.ntmps23
    go_wp2_with fail
    refine HC.mono ?_
    rintro e w1 ⟨rfl, hs1⟩
    replace ST := hide (ST.out w1 hs1)
    clear HC hs1
    go_wp2
    go_loopw [0, 1] (fun vx vy wr => ∃ X Y, EuSt w wr base G K vx vy X Y) (fun _ vy wr => rdN wr vy)
    case atStart => exact ⟨_, _, ST.out⟩
    case round =>
      obtain ⟨X, Y, hst⟩ := hrel
      have HST := hide hst
      have hyl := hst.ylen
      have hxl := hst.lx
      clear ST
      rcases hst.ax.form with ⟨_, h0⟩ | ⟨gx, cx, rfl, hgx, _, hcx, hcx2, fx, cellx⟩
      · have := hst.pos; rw [h0] at this; simp [val] at this
      · by_cases hy2 : 2 ≤ Y.length
        · rcases hst.ay.form with ⟨_, h0⟩ | ⟨gy, cy, rfl, hgy, _, hcy, hcy2, fy, celly⟩
          · rw [h0] at hy2; simp at hy2
          · have hne : gx ≠ gy := fun e => hst.apart gx rfl (by rw [e]; rfl)
            have i1 : (1 : Int) < (Y.length : Int) := by omega
            have HHB := highBits_any gx 0 cx (some ⟨gy, 0, none⟩) cy X Y wr (.inr ⟨gx, 0, rfl, fun k hk => by rw [Nat.zero_add]; exact cellx k hk⟩) (.inr ⟨gy, 0, rfl, fun k hk => by rw [Nat.zero_add]; exact celly k hk⟩) hst.ax.limbs hst.ay.limbs (by omega) hst.tx (by omega) hst.le hyl
            clear hst fx fy cellx celly
            go_wp2_with fail
            refine HHB.mono ?_
            rintro e w2 ⟨⟨xh, yh, xl, yl, Pw, rfl, f1, f2, f3, f4, f5, f6⟩, hb2⟩
            have HSO := stepsOf_any xh yh w2 f5 f6
            have HF := hide (And.intro f1 (And.intro f2 (And.intro f3 f4)))
            have HB2 := hide hb2
            clear HHB f1 f2 f3 f4 f5 f6 hb2
            go_wp2_with fail
            refine HSO.mono ?_
            rintro e w3 ⟨⟨a, b, c, d, o, rfl, hk⟩, hb3⟩
            have HK := hide hk
            have HB3 := hide (HB2.out.trans (hb3.mono HB2.out.size))
            clear HSO hk hb3
            obtain ⟨w4, hw4⟩ : ∃ w4, w4 = w3.alloc (.cells #[.int .u64 a, .int .u64 b, .int .u64 c, .int .u64 d, .bool o] 64) := ⟨_, rfl⟩
            have h4 : w4.heap[w3.heap.size]? = some (.cells #[.int .u64 a, .int .u64 b, .int .u64 c, .int .u64 d, .bool o] 64) := by rw [hw4]; exact heap_alloc_new ..
            have HB4 := hide (show Below wr.heap.size wr w4 by rw [hw4]; exact HB3.out.alloc HB3.out.size _)
            have HNO := none_any a b c d o w4
            obtain ⟨s0, s1, s2, s3, s4⟩ := box5 h4
            have H4 := hide h4
            have HW4 := hide hw4
            rw [hw4] at s0 s1 s2 s3 s4
            unfold stv at HNO ⊢
            have hl4 : w3.heap.size < w4.heap.size := lt_of_block' h4
            clear hw4 h4 HB3 HB2
            by_cases hb0 : b = 0
            · rw [decide_eq_true hb0] at HNO
              clear HK hb0
              go_wp2_with fail
              rw [← HW4.out]
              refine HNO.mono ?_
              rintro e w5 ⟨rfl, hb5⟩
              have HB5 := hide (HB4.out.trans (hb5.mono HB4.out.size))
              have hst5 := HST.out.up HB5.out
              have hv0 : val Y ≠ 0 := fun h => by
                have := HST.out.ay.few 0 (by rw [h]; simp) HST.out.ty
                omega
              have HDV := divisorOf_any _ Y w5 (hst5.ay.arg (by omega)) hst5.tab hv0 (by omega)
              have HV0 := hide hv0
              clear HNO hb5 hst5 s0 s1 s2 s3 s4 H4 hv0
              go_wp2_with fail
              refine HDV.mono ?_
              rintro e w6 ⟨⟨vd, rfl, hd⟩, hb6⟩
              have HB6 := hide (HB5.out.trans (hb6.mono HB5.out.size))
              have hst6 := HST.out.up HB6.out
              have HRS := rest_any _ vd X _ _ _ w6 (hst6.ax.arg (by omega)) hd hst6.tab (by omega)
              clear HDV hd hb6 hst6
              go_wp2_with fail
              refine HRS.mono ?_
              rintro e w7 ⟨⟨vr, rs, rfl, A3, e3, l3, _⟩, hb7⟩
              have HB7 := hide (HB6.out.trans (hb7.mono HB6.out.size))
              obtain ⟨ar, cr, rfl, hcr, hcr2, hlr⟩ := (A3.arg (by omega)).form
              have HTR := dtrim_any ar cr rs w7 hcr hcr2 hlr
              have HNEW : Hid (EuSt w w7 base G K (.slice (some ⟨gy, 0, none⟩) Y.length cy) (.slice ar (tr rs).length cr) Y (tr rs) ∧ val rs < val Y) := by
                have h7 := HST.out.up HB7.out
                have hpos : 0 < val Y := Nat.pos_of_ne_zero HV0.out
                have hlt : val rs < val Y := by rw [e3]; exact Nat.mod_lt _ hpos
                have q1 := HB6.out.size
                have q2 := HST.out.ay.own.lt gy rfl
                have q3 := h7.bw
                refine hide ⟨⟨h7.ay, (A3.base (Nat.le_trans HST.out.bw q1)).trim, h7.ty, tr_tr _, by rw [val_tr]; omega, hpos, ?_, ?_, by omega, h7.bel, h7.tab, h7.bw⟩, hlt⟩
                · rw [val_tr, e3, ← HST.out.gcd, Nat.gcd_comm (val X), Nat.gcd_rec (val Y) (val X), Nat.gcd_comm]
                · intro g e
                  cases e
                  intro e2
                  have := (A3.own.lt gy (by rw [← e2]; cases ar <;> rfl)).1
                  omega
              clear HRS hb7 A3 e3 l3 hlr
              go_wp2_with fail
              refine HTR.mono ?_
              rintro e wn ⟨rfl, hw⟩; rw [hw]; clear hw wn HTR
              go_wp2
              go_roundw
              case rel => exact ⟨_, _, HNEW.out.1⟩
              case measure =>
                rw [rdN_arg (HNEW.out.1.ay.arg (by have := tr_length_le rs; have := HNEW.out.1.ylen; omega)), rdN_arg (HST.out.ay.arg (by omega)), val_tr]
                exact HNEW.out.2
            · rw [decide_eq_false hb0] at HNO
              go_wp2_with fail
              rw [← HW4.out]
              refine HNO.mono ?_
              rintro e w5 ⟨rfl, hb5⟩
              have HB5 := hide (HB4.out.trans (hb5.mono HB4.out.size))
              have hst5 := HST.out.up HB5.out
              obtain ⟨r0, r1, r2, r3, r4⟩ := box5 ((hb5.block w3.heap.size hl4).trans H4.out)
              obtain ⟨⟨x', y', hls, hla⟩, hd32⟩ := HK.out.resolve_left hb0
              have ba := hla.ab
              have bb := hla.bd
              have bc := hla.cd
              have HTK : Calls Tryd.prog 51 #[stv a b c d o, .slice (some ⟨gx, 0, none⟩) X.length cx, .slice (some ⟨gy, 0, none⟩) Y.length cy] w5 (TakeDone base gx cx gy cy X Y (sg o a) (sg o b) (sg o d) (sg o c) w5) := by
                cases o with
                | false => exact take_even base gx cx gy cy a b c d X Y w5 hst5.ax hst5.ay hne hyl hgx hgy hst5.bw (by omega) (by omega) (by omega) hd32
                | true => exact take_odd base gx cx gy cy a b c d X Y w5 hst5.ax hst5.ay hne hyl hgx hgy hst5.bw (by omega) (by omega) (by omega) hd32
              have HLS := hide (And.intro hls hla)
              unfold stv at HTK
              clear HNO hb5 hst5 s0 s1 s2 s3 s4 H4 hls hla ba bb bc HK
              go_wp2_with fail
              refine HTK.mono ?_
              rintro e w6 ⟨rfl, X', Y', ov, un, htk⟩
              have HTOOK := hide htk
              have hlx' := htk.lx
              have hly' := htk.ly
              have lt' : (X'.take Y.length).length = Y.length := by simp; omega
              have af := htk.ax.front Y.length (by omega)
              have afa := af.arg (by omega)
              obtain ⟨ao1, cp1, e1, g1, g2, g3⟩ := afa.form
              rw [lt'] at e1
              cases e1
              have T1 := dtrim_any _ _ (X'.take Y.length) w6 g1 g2 g3
              rw [lt'] at T1
              obtain ⟨ao2, cp2, e2, g4, g5, g6⟩ := (htk.ay.arg (by omega)).form
              cases e2
              have T2 := dtrim_any _ _ Y' w6 g4 g5 g6
              rw [hly'] at T2
              have k1 : (Y.length : Int) ≤ (cx : Int) := by omega
              have k0 : (0 : Int) ≤ (Y.length : Int) := by omega
              have HNEW : Hid (EuSt w w6 base G K (.slice (some ⟨gx, 0, none⟩) (tr (X'.take Y.length)).length cx) (.slice (some ⟨gy, 0, none⟩) (tr Y').length cy) (tr (X'.take Y.length)) (tr Y') ∧ val Y' < val Y) := by
                have h5 := HST.out.up HB5.out
                obtain ⟨V, W, q1, q2, q3⟩ := took_round htk HST.out.ay.limbs hyl HLS.out.1 HLS.out.2 HF.out.1 HF.out.2.1 HF.out.2.2.1 HF.out.2.2.2
                have af' : Ans w6 base (.slice (some ⟨gx, 0, none⟩) (X'.take Y.length).length cx) (X'.take Y.length) := by rw [lt']; exact af
                refine hide ⟨⟨af'.trim, htk.ay.trim, tr_tr _, tr_tr _, ?_, ?_, ?_, ?_, ?_, h5.bel.trans htk.bel, h5.tab.base htk.bel HTB.out, Nat.le_trans h5.bw htk.bel.size⟩, ?_⟩
                · rw [val_tr, val_tr, q2, q3]; exact Nat.le_of_lt q1.lt
                · rw [val_tr, q2]; have := q1.lt; omega
                · rw [val_tr, val_tr, q2, q3, q1.gcd]; exact HST.out.gcd
                · intro g e; cases e; simp [Value.ownBlock, Ne.symm hne]
                · have := tr_length_le (X'.take Y.length); omega
                · rw [q3]; have := q1.lt; have := q1.le; omega
              clear htk af afa g1 g2 g3 g4 g5 g6 r0 r1 r2 r3 r4 HTK HTOOK
              go_wp2_with fail
              refine T1.mono ?_
              rintro e wn ⟨rfl, hw⟩; rw [hw]; clear hw wn T1
              go_wp2_with fail
              refine T2.mono ?_
              rintro e wn ⟨rfl, hw⟩; rw [hw]; clear hw wn T2
              go_wp2
              go_roundw
              case rel => exact ⟨_, _, HNEW.out.1⟩
              case measure =>
                rw [rdN_arg (HNEW.out.1.ay.arg (by have := tr_length_le Y'; omega)), rdN_arg (HST.out.ay.arg (by omega)), val_tr]
                exact HNEW.out.2
        · by_cases hy0 : Y.length = 0
          · have hY : Y = [] := List.length_eq_zero_iff.1 hy0
            subst hY
            obtain ⟨ay, cy, rfl, _, _, _⟩ := (hst.ay.arg (by simp)).form
            have HE : Hid (EuDone w base G (.returned (.slice (some ⟨gx, 0, none⟩) X.length cx)) wr) := by
              refine hide ⟨⟨_, X, rfl, hst.ax, hst.tx, ?_⟩, hst.bel⟩
              have := hst.gcd
              simpa [val] using this
            clear hst fx cellx hy0 hy2 hyl
            go_wp2
            go_ret
            exact HE.out
          · have hy1 : Y.length = 1 := by omega
            rcases hst.ay.form with ⟨_, h0⟩ | ⟨gy, cy, rfl, hgy, hgyw, hcy, hcy2, fy, celly⟩
            · rw [h0] at hy1; simp at hy1
            · obtain ⟨sm, hsm⟩ : ∃ sm, val Y = sm := ⟨_, rfl⟩
              have hYl : val Y < 18446744073709551616 := by have := val_lt hst.ay.limbs; rw [hy1] at this; simpa using this
              have hsm0 : 0 < sm := by
                rw [← hsm]
                refine Nat.pos_of_ne_zero fun h => ?_
                have := hst.ay.few 0 (by rw [h]; simp) hst.ty
                omega
              have SM : sm < 18446744073709551616 := by rw [← hsm]; exact hYl
              have hcell : wr.cell? ⟨gy, 0, none⟩ = some (.int .u64 (sm : Int)) := by
                have h := celly 0 (by omega)
                rw [one_limb (Z := Y) hYl (by omega), hsm] at h
                exact h
              have hle : sm ≤ val X := by rw [← hsm]; exact hst.le
              obtain ⟨big, hbig⟩ : ∃ big, val X = big := ⟨_, rfl⟩
              rw [hbig] at hle
              have AY := (hst.ay.arg (by omega)).drew
              have AX := hide ((hst.ax.arg (by omega)).drew)
              have HTW := hide (hst.tab.below (Below.refl _ _).drew)
              have HDV := divisorOf_any _ Y wr.drew AY HTW.out (by rw [hsm]; omega) (by omega)
              rw [hsm, hy1] at HDV
              have HRS := hide (fun (w2 : World) (vd : Value) (hd : Dvs w2 wr.drew.heap.size vd sm (tr Y).length) (hb : Below wr.drew.heap.size wr.drew w2) =>
                show Calls Tryd.prog 27 #[vd, .slice (some ⟨gx, 0, none⟩) X.length cx] w2 (RestDone w2 big sm X.length) by
                  have h := rest_any _ vd X _ sm _ w2 (AX.out.below hb) hd (HTW.out.below hb) (by omega)
                  rw [hbig] at h
                  exact h)
              have HGC : Hid (Nat.gcd big sm = G) := by rw [← hbig, ← hsm]; exact hide hst.gcd
              have hgs1 : gy < wr.drew.heap.size := hgyw
              have HBW := hide (And.intro hst.bel hst.bw)
              rw [hy1]
              clear AY hst fx fy cellx celly hYl hy0 hy2 hyl HST
              go_wp2
              go_region_with (first
                | (go_at_call 26; refine HDV.mono ?_; rintro e w2 ⟨⟨vd, rfl, hd⟩, hb2'⟩; have hcell2 := cell_below hb2' (show wr.drew.cell? ⟨gy, 0, none⟩ = some (.int .u64 (sm : Int)) from hcell) hgs1)
                | (go_at_call 27; refine (HRS.out _ _ hd hb2').mono ?_; rintro e w3 ⟨⟨vr, rs, rfl, A3, e3, l3, l4⟩, hb3'⟩; obtain ⟨g3, c3, z3, rfl, hg3, hc3, hz3⟩ := ans_some A3 (l4 hle); have hl3 : (0 : Int) < (rs.length : Int) := (by have := l4 hle; omega); have hl5 : 0 < rs.length := l4 hle; have hcell3 := cell_below hb3' hcell2 (Nat.lt_of_lt_of_le hgs1 hb2'.size)))
              all_goals
                have hr : z3 = big % sm := by
                  have h1 : val rs < 18446744073709551616 := by rw [e3]; exact Nat.lt_trans (Nat.mod_lt _ hsm0) SM
                  rw [← hz3.out, one_limb h1 (l4 hle), e3]
                have hrl : z3 < 18446744073709551616 := by rw [hr]; exact Nat.lt_trans (Nat.mod_lt _ hsm0) SM
                have HGG : Hid (Nat.gcd sm z3 = G) := by rw [← HGC.out, hr, Nat.gcd_comm big sm, Nat.gcd_rec sm big, Nat.gcd_comm]; exact hide rfl
                have HW3 : Hid (Below base w w3 ∧ base ≤ w3.heap.size) := by
                  have q1 : Below wr.heap.size wr wr.drew := (Below.refl _ _).drew
                  have q2 : Below wr.heap.size wr w2 := q1.trans (hb2'.mono q1.size)
                  have q3 := q2.trans (hb3'.mono q2.size)
                  exact hide ⟨HBW.out.1.trans (q3.mono HBW.out.2), by have := q3.size; have := HBW.out.2; omega⟩
                clear hz3 A3 e3 l3 l4 hb3' hb2' hd HDV HRS hcell hcell2 hcell3 hl3 hc3 hr
                simp only [List.getElem_toArray, List.getElem_cons_succ, List.getElem_cons_zero, Act.put, List.setIfInBounds_toArray, List.set_cons_zero, List.set_cons_succ]
                go_wp2
                go_loopw [6, 7] (fun v u wq => ∃ a b : Nat, v = .int .u64 a ∧ u = .int .u64 b ∧ a < 18446744073709551616 ∧ b < 18446744073709551616 ∧ Nat.gcd a b = G ∧ Same w3 wq) (fun _ u _ => (intOf u).toNat)
                case atStart => exact ⟨sm, z3, rfl, rfl, SM, hrl, HGG.out, (Same.refl _)⟩
                case round =>
                  obtain ⟨a, b, rfl, rfl, ha, hb, hg, hsame⟩ := hrel
                  have HG := hide hg
                  have HS := hide hsame
                  clear hg hsame
                  by_cases hb0 : b = 0
                  · subst hb0
                    have HE : Hid (EuDone w base G (.returned (.slice (some ⟨wr.heap.size, 0, none⟩) 1 1)) (wr.alloc (.cells #[.int .u64 (a : Int)] 33))) := by
                      have hga := HG.out
                      rw [Nat.gcd_zero_right] at hga
                      have hpos : 0 < G := by rw [← HGC.out]; exact Nat.gcd_pos_of_pos_right _ hsm0
                      have hbk : Blk (wr.alloc (.cells #[.int .u64 (a : Int)] 33)) wr.heap.size [a] := heap_alloc_new ..
                      have hsz : wr.heap.size = w3.heap.size := HS.out.size
                      have AN := Ans.of_blk (base := base) (zs := [a]) (show base ≤ wr.heap.size by have := HW3.out.2; omega) hbk (by simp) (by simp) (by simp) (by intro z hz; simp at hz; omega)
                      refine hide ⟨⟨_, [a], rfl, AN, ?_, ?_⟩, ?_⟩
                      · have : a ≠ 0 := by omega
                        simp [tr, this]
                      · simp [val]; exact hga
                      · have q1 : Below base w wr := HW3.out.1.trans ((HS.out.below _).mono HW3.out.2)
                        exact q1.alloc (show base ≤ wr.heap.size by have := HW3.out.2; omega) _
                    go_wp2
                    go_ret
                    exact HE.out
                  · have hpos : (0 : Int) < (b : Int) := by omega
                    have hz : ((b : Int) == 0) = false := by rw [beq_eq_false_iff_ne]; omega
                    have hlt' : a % b < b := Nat.mod_lt _ (by omega)
                    have HGN : Hid (Nat.gcd b (a % b) = G) := by rw [← HG.out, Nat.gcd_comm a b, Nat.gcd_rec b a, Nat.gcd_comm]; exact hide rfl
                    have hmod : (a : Int) % (b : Int) = ((a % b : Nat) : Int) := by omega
                    generalize a % b = c at *
                    clear hb0
                    go_wp2
                    go_quiet (fail)
                    go_wp2
                    go_roundw
                    case rel => exact ⟨b, c, rfl, (by rw [hmod]), hb, by omega, HGN.out, HS.out.drewN _⟩
                    case measure => simp [intOf]; omega
  · have ST := hide (show ∀ w1, Same w w1 → EuSt w w1 base G K (.slice (some ⟨gx, 0, none⟩) (tr Zx).length Zx.length) (.slice (some ⟨gy, 0, none⟩) (tr Zy).length Zy.length) (tr Zx) (tr Zy) from fun w1 h1 =>
      ⟨N1.below (h1.below _), N2.below (h1.below _), tr_tr _, tr_tr _, by rw [val_tr, val_tr]; omega, by rw [val_tr]; omega, by rw [val_tr, val_tr, ex, ey]; exact hG, fun g e => by cases e; simp [Value.ownBlock, Ne.symm hne], hK1, h1.below _, hT.below (h1.below _), by rw [h1.size]; exact hbw⟩)
    have hc : decide (cmpN x y < 0) = false := by
      unfold cmpN; rw [if_neg hlt]; split <;> decide
    generalize cmpN x y = cc at *
    clear A1 A2 N1 N2 hBx hBy hLx hLy hT htb ex ey hfx hfy hG
    go_enter Tryd.func23, Tryd.ntmps23
    go_wp2_with fail
    refine HC.mono ?_
    rintro e w1 ⟨rfl, hs1⟩
    replace ST := hide (ST.out w1 hs1)
    clear HC hs1
    go_wp2
    go_loopw [0, 1] (fun vx vy wr => ∃ X Y, EuSt w wr base G K vx vy X Y) (fun _ vy wr => rdN wr vy)
    case atStart => exact ⟨_, _, ST.out⟩
    case round =>
      obtain ⟨X, Y, hst⟩ := hrel
      have HST := hide hst
      have hyl := hst.ylen
      have hxl := hst.lx
      clear ST
      rcases hst.ax.form with ⟨_, h0⟩ | ⟨gx, cx, rfl, hgx, _, hcx, hcx2, fx, cellx⟩
      · have := hst.pos; rw [h0] at this; simp [val] at this
      · by_cases hy2 : 2 ≤ Y.length
        · rcases hst.ay.form with ⟨_, h0⟩ | ⟨gy, cy, rfl, hgy, _, hcy, hcy2, fy, celly⟩
          · rw [h0] at hy2; simp at hy2
          · have hne : gx ≠ gy := fun e => hst.apart gx rfl (by rw [e]; rfl)
            have i1 : (1 : Int) < (Y.length : Int) := by omega
            have HHB := highBits_any gx 0 cx (some ⟨gy, 0, none⟩) cy X Y wr (.inr ⟨gx, 0, rfl, fun k hk => by rw [Nat.zero_add]; exact cellx k hk⟩) (.inr ⟨gy, 0, rfl, fun k hk => by rw [Nat.zero_add]; exact celly k hk⟩) hst.ax.limbs hst.ay.limbs (by omega) hst.tx (by omega) hst.le hyl
            clear hst fx fy cellx celly
            go_wp2_with fail
            refine HHB.mono ?_
            rintro e w2 ⟨⟨xh, yh, xl, yl, Pw, rfl, f1, f2, f3, f4, f5, f6⟩, hb2⟩
            have HSO := stepsOf_any xh yh w2 f5 f6
            have HF := hide (And.intro f1 (And.intro f2 (And.intro f3 f4)))
            have HB2 := hide hb2
            clear HHB f1 f2 f3 f4 f5 f6 hb2
            go_wp2_with fail
            refine HSO.mono ?_
            rintro e w3 ⟨⟨a, b, c, d, o, rfl, hk⟩, hb3⟩
            have HK := hide hk
            have HB3 := hide (HB2.out.trans (hb3.mono HB2.out.size))
            clear HSO hk hb3
            obtain ⟨w4, hw4⟩ : ∃ w4, w4 = w3.alloc (.cells #[.int .u64 a, .int .u64 b, .int .u64 c, .int .u64 d, .bool o] 64) := ⟨_, rfl⟩
            have h4 : w4.heap[w3.heap.size]? = some (.cells #[.int .u64 a, .int .u64 b, .int .u64 c, .int .u64 d, .bool o] 64) := by rw [hw4]; exact heap_alloc_new ..
            have HB4 := hide (show Below wr.heap.size wr w4 by rw [hw4]; exact HB3.out.alloc HB3.out.size _)
            have HNO := none_any a b c d o w4
            obtain ⟨s0, s1, s2, s3, s4⟩ := box5 h4
            have H4 := hide h4
            have HW4 := hide hw4
            rw [hw4] at s0 s1 s2 s3 s4
            unfold stv at HNO ⊢
            have hl4 : w3.heap.size < w4.heap.size := lt_of_block' h4
            clear hw4 h4 HB3 HB2
            by_cases hb0 : b = 0
            · rw [decide_eq_true hb0] at HNO
              clear HK hb0
              go_wp2_with fail
              rw [← HW4.out]
              refine HNO.mono ?_
              rintro e w5 ⟨rfl, hb5⟩
              have HB5 := hide (HB4.out.trans (hb5.mono HB4.out.size))
              have hst5 := HST.out.up HB5.out
              have hv0 : val Y ≠ 0 := fun h => by
                have := HST.out.ay.few 0 (by rw [h]; simp) HST.out.ty
                omega
              have HDV := divisorOf_any _ Y w5 (hst5.ay.arg (by omega)) hst5.tab hv0 (by omega)
              have HV0 := hide hv0
              clear HNO hb5 hst5 s0 s1 s2 s3 s4 H4 hv0
              go_wp2_with fail
              refine HDV.mono ?_
              rintro e w6 ⟨⟨vd, rfl, hd⟩, hb6⟩
              have HB6 := hide (HB5.out.trans (hb6.mono HB5.out.size))
              have hst6 := HST.out.up HB6.out
              have HRS := rest_any _ vd X _ _ _ w6 (hst6.ax.arg (by omega)) hd hst6.tab (by omega)
              clear HDV hd hb6 hst6
              go_wp2_with fail
              refine HRS.mono ?_
              rintro e w7 ⟨⟨vr, rs, rfl, A3, e3, l3, _⟩, hb7⟩
              have HB7 := hide (HB6.out.trans (hb7.mono HB6.out.size))
              obtain ⟨ar, cr, rfl, hcr, hcr2, hlr⟩ := (A3.arg (by omega)).form
              have HTR := dtrim_any ar cr rs w7 hcr hcr2 hlr
              have HNEW : Hid (EuSt w w7 base G K (.slice (some ⟨gy, 0, none⟩) Y.length cy) (.slice ar (tr rs).length cr) Y (tr rs) ∧ val rs < val Y) := by
                have h7 := HST.out.up HB7.out
                have hpos : 0 < val Y := Nat.pos_of_ne_zero HV0.out
                have hlt : val rs < val Y := by rw [e3]; exact Nat.mod_lt _ hpos
                have q1 := HB6.out.size
                have q2 := HST.out.ay.own.lt gy rfl
                have q3 := h7.bw
                refine hide ⟨⟨h7.ay, (A3.base (Nat.le_trans HST.out.bw q1)).trim, h7.ty, tr_tr _, by rw [val_tr]; omega, hpos, ?_, ?_, by omega, h7.bel, h7.tab, h7.bw⟩, hlt⟩
                · rw [val_tr, e3, ← HST.out.gcd, Nat.gcd_comm (val X), Nat.gcd_rec (val Y) (val X), Nat.gcd_comm]
                · intro g e
                  cases e
                  intro e2
                  have := (A3.own.lt gy (by rw [← e2]; cases ar <;> rfl)).1
                  omega
              clear HRS hb7 A3 e3 l3 hlr
              go_wp2_with fail
              refine HTR.mono ?_
              rintro e wn ⟨rfl, hw⟩; rw [hw]; clear hw wn HTR
              go_wp2
              go_roundw
              case rel => exact ⟨_, _, HNEW.out.1⟩
              case measure =>
                rw [rdN_arg (HNEW.out.1.ay.arg (by have := tr_length_le rs; have := HNEW.out.1.ylen; omega)), rdN_arg (HST.out.ay.arg (by omega)), val_tr]
                exact HNEW.out.2
            · rw [decide_eq_false hb0] at HNO
              go_wp2_with fail
              rw [← HW4.out]
              refine HNO.mono ?_
              rintro e w5 ⟨rfl, hb5⟩
              have HB5 := hide (HB4.out.trans (hb5.mono HB4.out.size))
              have hst5 := HST.out.up HB5.out
              obtain ⟨r0, r1, r2, r3, r4⟩ := box5 ((hb5.block w3.heap.size hl4).trans H4.out)
              obtain ⟨⟨x', y', hls, hla⟩, hd32⟩ := HK.out.resolve_left hb0
              have ba := hla.ab
              have bb := hla.bd
              have bc := hla.cd
              have HTK : Calls Tryd.prog 51 #[stv a b c d o, .slice (some ⟨gx, 0, none⟩) X.length cx, .slice (some ⟨gy, 0, none⟩) Y.length cy] w5 (TakeDone base gx cx gy cy X Y (sg o a) (sg o b) (sg o d) (sg o c) w5) := by
                cases o with
                | false => exact take_even base gx cx gy cy a b c d X Y w5 hst5.ax hst5.ay hne hyl hgx hgy hst5.bw (by omega) (by omega) (by omega) hd32
                | true => exact take_odd base gx cx gy cy a b c d X Y w5 hst5.ax hst5.ay hne hyl hgx hgy hst5.bw (by omega) (by omega) (by omega) hd32
              have HLS := hide (And.intro hls hla)
              unfold stv at HTK
              clear HNO hb5 hst5 s0 s1 s2 s3 s4 H4 hls hla ba bb bc HK
              go_wp2_with fail
              refine HTK.mono ?_
              rintro e w6 ⟨rfl, X', Y', ov, un, htk⟩
              have HTOOK := hide htk
              have hlx' := htk.lx
              have hly' := htk.ly
              have lt' : (X'.take Y.length).length = Y.length := by simp; omega
              have af := htk.ax.front Y.length (by omega)
              have afa := af.arg (by omega)
              obtain ⟨ao1, cp1, e1, g1, g2, g3⟩ := afa.form
              rw [lt'] at e1
              cases e1
              have T1 := dtrim_any _ _ (X'.take Y.length) w6 g1 g2 g3
              rw [lt'] at T1
              obtain ⟨ao2, cp2, e2, g4, g5, g6⟩ := (htk.ay.arg (by omega)).form
              cases e2
              have T2 := dtrim_any _ _ Y' w6 g4 g5 g6
              rw [hly'] at T2
              have k1 : (Y.length : Int) ≤ (cx : Int) := by omega
              have k0 : (0 : Int) ≤ (Y.length : Int) := by omega
              have HNEW : Hid (EuSt w w6 base G K (.slice (some ⟨gx, 0, none⟩) (tr (X'.take Y.length)).length cx) (.slice (some ⟨gy, 0, none⟩) (tr Y').length cy) (tr (X'.take Y.length)) (tr Y') ∧ val Y' < val Y) := by
                have h5 := HST.out.up HB5.out
                obtain ⟨V, W, q1, q2, q3⟩ := took_round htk HST.out.ay.limbs hyl HLS.out.1 HLS.out.2 HF.out.1 HF.out.2.1 HF.out.2.2.1 HF.out.2.2.2
                have af' : Ans w6 base (.slice (some ⟨gx, 0, none⟩) (X'.take Y.length).length cx) (X'.take Y.length) := by rw [lt']; exact af
                refine hide ⟨⟨af'.trim, htk.ay.trim, tr_tr _, tr_tr _, ?_, ?_, ?_, ?_, ?_, h5.bel.trans htk.bel, h5.tab.base htk.bel HTB.out, Nat.le_trans h5.bw htk.bel.size⟩, ?_⟩
                · rw [val_tr, val_tr, q2, q3]; exact Nat.le_of_lt q1.lt
                · rw [val_tr, q2]; have := q1.lt; omega
                · rw [val_tr, val_tr, q2, q3, q1.gcd]; exact HST.out.gcd
                · intro g e; cases e; simp [Value.ownBlock, Ne.symm hne]
                · have := tr_length_le (X'.take Y.length); omega
                · rw [q3]; have := q1.lt; have := q1.le; omega
              clear htk af afa g1 g2 g3 g4 g5 g6 r0 r1 r2 r3 r4 HTK HTOOK
              go_wp2_with fail
              refine T1.mono ?_
              rintro e wn ⟨rfl, hw⟩; rw [hw]; clear hw wn T1
              go_wp2_with fail
              refine T2.mono ?_
              rintro e wn ⟨rfl, hw⟩; rw [hw]; clear hw wn T2
              go_wp2
              go_roundw
              case rel => exact ⟨_, _, HNEW.out.1⟩
              case measure =>
                rw [rdN_arg (HNEW.out.1.ay.arg (by have := tr_length_le Y'; omega)), rdN_arg (HST.out.ay.arg (by omega)), val_tr]
                exact HNEW.out.2
        · by_cases hy0 : Y.length = 0
          · have hY : Y = [] := List.length_eq_zero_iff.1 hy0
            subst hY
            obtain ⟨ay, cy, rfl, _, _, _⟩ := (hst.ay.arg (by simp)).form
            have HE : Hid (EuDone w base G (.returned (.slice (some ⟨gx, 0, none⟩) X.length cx)) wr) := by
              refine hide ⟨⟨_, X, rfl, hst.ax, hst.tx, ?_⟩, hst.bel⟩
              have := hst.gcd
              simpa [val] using this
            clear hst fx cellx hy0 hy2 hyl
            go_wp2
            go_ret
            exact HE.out
          · have hy1 : Y.length = 1 := by omega
            rcases hst.ay.form with ⟨_, h0⟩ | ⟨gy, cy, rfl, hgy, hgyw, hcy, hcy2, fy, celly⟩
            · rw [h0] at hy1; simp at hy1
            · obtain ⟨sm, hsm⟩ : ∃ sm, val Y = sm := ⟨_, rfl⟩
              have hYl : val Y < 18446744073709551616 := by have := val_lt hst.ay.limbs; rw [hy1] at this; simpa using this
              have hsm0 : 0 < sm := by
                rw [← hsm]
                refine Nat.pos_of_ne_zero fun h => ?_
                have := hst.ay.few 0 (by rw [h]; simp) hst.ty
                omega
              have SM : sm < 18446744073709551616 := by rw [← hsm]; exact hYl
              have hcell : wr.cell? ⟨gy, 0, none⟩ = some (.int .u64 (sm : Int)) := by
                have h := celly 0 (by omega)
                rw [one_limb (Z := Y) hYl (by omega), hsm] at h
                exact h
              have hle : sm ≤ val X := by rw [← hsm]; exact hst.le
              obtain ⟨big, hbig⟩ : ∃ big, val X = big := ⟨_, rfl⟩
              rw [hbig] at hle
              have AY := (hst.ay.arg (by omega)).drew
              have AX := hide ((hst.ax.arg (by omega)).drew)
              have HTW := hide (hst.tab.below (Below.refl _ _).drew)
              have HDV := divisorOf_any _ Y wr.drew AY HTW.out (by rw [hsm]; omega) (by omega)
              rw [hsm, hy1] at HDV
              have HRS := hide (fun (w2 : World) (vd : Value) (hd : Dvs w2 wr.drew.heap.size vd sm (tr Y).length) (hb : Below wr.drew.heap.size wr.drew w2) =>
                show Calls Tryd.prog 27 #[vd, .slice (some ⟨gx, 0, none⟩) X.length cx] w2 (RestDone w2 big sm X.length) by
                  have h := rest_any _ vd X _ sm _ w2 (AX.out.below hb) hd (HTW.out.below hb) (by omega)
                  rw [hbig] at h
                  exact h)
              have HGC : Hid (Nat.gcd big sm = G) := by rw [← hbig, ← hsm]; exact hide hst.gcd
              have hgs1 : gy < wr.drew.heap.size := hgyw
              have HBW := hide (And.intro hst.bel hst.bw)
              rw [hy1]
              clear AY hst fx fy cellx celly hYl hy0 hy2 hyl HST
              go_wp2
              go_region_with (first
                | (go_at_call 26; refine HDV.mono ?_; rintro e w2 ⟨⟨vd, rfl, hd⟩, hb2'⟩; have hcell2 := cell_below hb2' (show wr.drew.cell? ⟨gy, 0, none⟩ = some (.int .u64 (sm : Int)) from hcell) hgs1)
                | (go_at_call 27; refine (HRS.out _ _ hd hb2').mono ?_; rintro e w3 ⟨⟨vr, rs, rfl, A3, e3, l3, l4⟩, hb3'⟩; obtain ⟨g3, c3, z3, rfl, hg3, hc3, hz3⟩ := ans_some A3 (l4 hle); have hl3 : (0 : Int) < (rs.length : Int) := (by have := l4 hle; omega); have hl5 : 0 < rs.length := l4 hle; have hcell3 := cell_below hb3' hcell2 (Nat.lt_of_lt_of_le hgs1 hb2'.size)))
              all_goals
                have hr : z3 = big % sm := by
                  have h1 : val rs < 18446744073709551616 := by rw [e3]; exact Nat.lt_trans (Nat.mod_lt _ hsm0) SM
                  rw [← hz3.out, one_limb h1 (l4 hle), e3]
                have hrl : z3 < 18446744073709551616 := by rw [hr]; exact Nat.lt_trans (Nat.mod_lt _ hsm0) SM
                have HGG : Hid (Nat.gcd sm z3 = G) := by rw [← HGC.out, hr, Nat.gcd_comm big sm, Nat.gcd_rec sm big, Nat.gcd_comm]; exact hide rfl
                have HW3 : Hid (Below base w w3 ∧ base ≤ w3.heap.size) := by
                  have q1 : Below wr.heap.size wr wr.drew := (Below.refl _ _).drew
                  have q2 : Below wr.heap.size wr w2 := q1.trans (hb2'.mono q1.size)
                  have q3 := q2.trans (hb3'.mono q2.size)
                  exact hide ⟨HBW.out.1.trans (q3.mono HBW.out.2), by have := q3.size; have := HBW.out.2; omega⟩
                clear hz3 A3 e3 l3 l4 hb3' hb2' hd HDV HRS hcell hcell2 hcell3 hl3 hc3 hr
                simp only [List.getElem_toArray, List.getElem_cons_succ, List.getElem_cons_zero, Act.put, List.setIfInBounds_toArray, List.set_cons_zero, List.set_cons_succ]
                go_wp2
                go_loopw [6, 7] (fun v u wq => ∃ a b : Nat, v = .int .u64 a ∧ u = .int .u64 b ∧ a < 18446744073709551616 ∧ b < 18446744073709551616 ∧ Nat.gcd a b = G ∧ Same w3 wq) (fun _ u _ => (intOf u).toNat)
                case atStart => exact ⟨sm, z3, rfl, rfl, SM, hrl, HGG.out, (Same.refl _)⟩
                case round =>
                  obtain ⟨a, b, rfl, rfl, ha, hb, hg, hsame⟩ := hrel
                  have HG := hide hg
                  have HS := hide hsame
                  clear hg hsame
                  by_cases hb0 : b = 0
                  · subst hb0
                    have HE : Hid (EuDone w base G (.returned (.slice (some ⟨wr.heap.size, 0, none⟩) 1 1)) (wr.alloc (.cells #[.int .u64 (a : Int)] 33))) := by
                      have hga := HG.out
                      rw [Nat.gcd_zero_right] at hga
                      have hpos : 0 < G := by rw [← HGC.out]; exact Nat.gcd_pos_of_pos_right _ hsm0
                      have hbk : Blk (wr.alloc (.cells #[.int .u64 (a : Int)] 33)) wr.heap.size [a] := heap_alloc_new ..
                      have hsz : wr.heap.size = w3.heap.size := HS.out.size
                      have AN := Ans.of_blk (base := base) (zs := [a]) (show base ≤ wr.heap.size by have := HW3.out.2; omega) hbk (by simp) (by simp) (by simp) (by intro z hz; simp at hz; omega)
                      refine hide ⟨⟨_, [a], rfl, AN, ?_, ?_⟩, ?_⟩
                      · have : a ≠ 0 := by omega
                        simp [tr, this]
                      · simp [val]; exact hga
                      · have q1 : Below base w wr := HW3.out.1.trans ((HS.out.below _).mono HW3.out.2)
                        exact q1.alloc (show base ≤ wr.heap.size by have := HW3.out.2; omega) _
                    go_wp2
                    go_ret
                    exact HE.out
                  · have hpos : (0 : Int) < (b : Int) := by omega
                    have hz : ((b : Int) == 0) = false := by rw [beq_eq_false_iff_ne]; omega
                    have hlt' : a % b < b := Nat.mod_lt _ (by omega)
                    have HGN : Hid (Nat.gcd b (a % b) = G) := by rw [← HG.out, Nat.gcd_comm a b, Nat.gcd_rec b a, Nat.gcd_comm]; exact hide rfl
                    have hmod : (a : Int) % (b : Int) = ((a % b : Nat) : Int) := by omega
                    generalize a % b = c at *
                    clear hb0
                    go_wp2
                    go_quiet (fail)
                    go_wp2
                    go_roundw
                    case rel => exact ⟨b, c, rfl, (by rw [hmod]), hb, by omega, HGN.out, HS.out.drewN _⟩
                    case measure => simp [intOf]; omega

end Go.Proofs.YtelfjadonlgkiabDoor

/- Package div: Gcd and Lcm of any numbers. -/
namespace Go.Proofs.YtelfjadonlgkiabDoor
open Go.RowKit
open Lm
attribute [local go_sem ↓] Go.wp_at_zero Go.wp_at_succ

theorem gcd_any (va vb : Value) (X Y : List Nat) (w : World) (hA : Arg w va X) (hA2 : Arg w vb Y) (hT : Tab w) (hf1 : X.length ≤ 17592186044000) (hf2 : Y.length ≤ 17592186044000) :
    Calls Tryd.prog 8 #[va, vb] w (GcdDone w (Nat.gcd (val X) (val Y))) := by
  by_cases hX : val X = 0
  · have Z1 := isZero_any va X w hA
    rw [decide_eq_true hX] at Z1
    have HN := nnorm_any vb Y w hA2 (by omega)
    have HG : Hid (Nat.gcd (val X) (val Y) = val Y) := by rw [hX, Nat.gcd_zero_left]; exact hide rfl
    generalize Nat.gcd (val X) (val Y) = G at *
    clear hA hA2 hT hX
    go_enter Tryd.func8, Tryd.ntmps8
    go_wp2_with fail
    refine Z1.mono ?_
    rintro e wn ⟨rfl, hw⟩; rw [hw]; clear hw wn Z1
    go_wp2_with fail
    refine HN.mono ?_
    rintro e w2 ⟨⟨v, rfl, A1⟩, hb⟩
    have H := hide (And.intro A1 hb)
    clear HN A1 hb
    go_wp2
    go_ret
    exact ⟨⟨_, _, rfl, H.out.1, tr_tr _, by rw [val_tr, HG.out]⟩, H.out.2⟩
  · by_cases hY : val Y = 0
    · have Z1 := isZero_any va X w hA
      rw [decide_eq_false hX] at Z1
      have Z2 := isZero_any vb Y w hA2
      rw [decide_eq_true hY] at Z2
      have HN := nnorm_any va X w hA (by omega)
      have HG : Hid (Nat.gcd (val X) (val Y) = val X) := by rw [hY, Nat.gcd_zero_right]; exact hide rfl
      generalize Nat.gcd (val X) (val Y) = G at *
      clear hA hA2 hT hX hY
      go_enter Tryd.func8, Tryd.ntmps8
      go_wp2_with fail
      refine Z1.mono ?_
      rintro e wn ⟨rfl, hw⟩; rw [hw]; clear hw wn Z1
      go_wp2_with fail
      refine Z2.mono ?_
      rintro e wn ⟨rfl, hw⟩; rw [hw]; clear hw wn Z2
      go_wp2_with fail
      refine HN.mono ?_
      rintro e w2 ⟨⟨v, rfl, A1⟩, hb⟩
      have H := hide (And.intro A1 hb)
      clear HN A1 hb
      go_wp2
      go_ret
      exact ⟨⟨_, _, rfl, H.out.1, tr_tr _, by rw [val_tr, HG.out]⟩, H.out.2⟩
    · exact gcd_of va vb X Y w hA hA2 hT hf1 hf2 hX hY fun i j h1 h2 => euclid_any _ _ h1 h2

theorem blen_mono {x y : Nat} (h : x ≤ y) : blen x ≤ blen y := (blen_le_iff x _).2 (Nat.lt_of_le_of_lt h ((blen_le_iff y _).1 (Nat.le_refl _)))

theorem lcm_ge {x y : Nat} (hx : 0 < x) (hy : 0 < y) : x ≤ x / Nat.gcd x y * y ∧ y ≤ x / Nat.gcd x y * y := by
  have hg : 0 < Nat.gcd x y := Nat.gcd_pos_of_pos_left _ hx
  obtain ⟨a, ha⟩ := Nat.gcd_dvd_left x y
  obtain ⟨b, hb⟩ := Nat.gcd_dvd_right x y
  have e1 : x / Nat.gcd x y = a := by
    conv => lhs; lhs; rw [ha]
    exact Nat.mul_div_cancel_left _ hg
  rw [e1]
  have ha0 : 0 < a := by
    rcases Nat.eq_zero_or_pos a with z | z
    · rw [z] at ha; omega
    · exact z
  have hb0 : 0 < b := by
    rcases Nat.eq_zero_or_pos b with z | z
    · rw [z] at hb; omega
    · exact z
  refine ⟨?_, Nat.le_mul_of_pos_left _ ha0⟩
  have e2 : a * y = x * b := by
    conv => lhs; rw [hb]
    conv => rhs; rw [ha]
    grind
  rw [e2]
  exact Nat.le_mul_of_pos_right _ hb0

set_option maxHeartbeats 1000000 in
theorem lcm_any (va vb : Value) (X Y : List Nat) (w : World) (hA : Arg w va X) (hA2 : Arg w vb Y) (hT : Tab w) (hf1 : X.length ≤ 17592186044000) (hf2 : Y.length ≤ 17592186044000) :
    Calls Tryd.prog 10 #[va, vb] w fun e w' => Below w.heap.size w w' ∧ Res w' w.heap.size e (val X / Nat.gcd (val X) (val Y) * val Y) := by
  have Z1 := isZero_any va X w hA
  have Z2 := isZero_any vb Y w hA2
  have L1 := length_val _ _ w hA
  have L2 := length_val _ _ w hA2
  by_cases hX : val X = 0
  · rw [decide_eq_true hX] at Z1
    have HR : Hid (Res w w.heap.size (.returned (.tuple #[.slice none 0 0, .int .i64 0])) (val X / Nat.gcd (val X) (val Y) * val Y)) := by
      refine hide ⟨_, 0, [], rfl, Ans.nil _ _, .inl ⟨rfl, ?_, rfl, ?_⟩⟩ <;> rw [hX]
      · simp [val]
      · simp; decide
    generalize val X / Nat.gcd (val X) (val Y) * val Y = M at *
    clear hA hA2 hT hX Z2 L1 L2
    go_enter Tryd.func10, Tryd.ntmps10
    go_wp2_with fail
    refine Z1.mono ?_
    rintro e wn ⟨rfl, hw⟩; rw [hw]; clear hw wn Z1
    go_wp2
    go_returns
    exact ⟨Below.refl _ _, HR.out⟩
  · rw [decide_eq_false hX] at Z1
    by_cases hY : val Y = 0
    · rw [decide_eq_true hY] at Z2
      have HR : Hid (Res w w.heap.size (.returned (.tuple #[.slice none 0 0, .int .i64 0])) (val X / Nat.gcd (val X) (val Y) * val Y)) := by
        refine hide ⟨_, 0, [], rfl, Ans.nil _ _, .inl ⟨rfl, ?_, rfl, ?_⟩⟩ <;> rw [hY]
        · simp [val]
        · simp; decide
      generalize val X / Nat.gcd (val X) (val Y) * val Y = M at *
      clear hA hA2 hT hX hY L1 L2
      go_enter Tryd.func10, Tryd.ntmps10
      go_wp2_with fail
      refine Z1.mono ?_
      rintro e wn ⟨rfl, hw⟩; rw [hw]; clear hw wn Z1
      go_wp2_with fail
      refine Z2.mono ?_
      rintro e wn ⟨rfl, hw⟩; rw [hw]; clear hw wn Z2
      go_wp2
      go_returns
      exact ⟨Below.refl _ _, HR.out⟩
    · rw [decide_eq_false hY] at Z2
      obtain ⟨g1, g2⟩ := lcm_ge (Nat.pos_of_ne_zero hX) (Nat.pos_of_ne_zero hY)
      by_cases hbig : 67108864 < blen (val X) ∨ 67108864 < blen (val Y)
      · have HR : Hid (Res w w.heap.size (.returned (.tuple #[.slice none 0 0, .int .i64 3])) (val X / Nat.gcd (val X) (val Y) * val Y)) := by
          refine hide ⟨_, 3, [], rfl, Ans.nil _ _, .inr ⟨rfl, rfl, ?_⟩⟩
          have := blen_mono g1
          have := blen_mono g2
          omega
        generalize val X / Nat.gcd (val X) (val Y) * val Y = M at *
        by_cases hb1 : 67108864 < blen (val X)
        · have i1 : (67108864 : Int) < (blen (val X) : Int) := by omega
          generalize blen (val X) = lx at *
          clear hA hA2 hT hX hY L2 hbig
          go_enter Tryd.func10, Tryd.ntmps10
          go_wp2_with fail
          refine Z1.mono ?_
          rintro e wn ⟨rfl, hw⟩; rw [hw]; clear hw wn Z1
          go_wp2_with fail
          refine Z2.mono ?_
          rintro e wn ⟨rfl, hw⟩; rw [hw]; clear hw wn Z2
          go_wp2_with fail
          refine L1.mono ?_
          rintro e wn ⟨rfl, hw⟩; rw [hw]; clear hw wn L1
          go_wp2
          go_returns
          exact ⟨Below.refl _ _, HR.out⟩
        · have i1 : ¬ ((67108864 : Int) < (blen (val X) : Int)) := by omega
          have i2 : (67108864 : Int) < (blen (val Y) : Int) := by omega
          generalize blen (val X) = lx at *
          generalize blen (val Y) = ly at *
          clear hA hA2 hT hX hY hbig
          go_enter Tryd.func10, Tryd.ntmps10
          go_wp2_with fail
          refine Z1.mono ?_
          rintro e wn ⟨rfl, hw⟩; rw [hw]; clear hw wn Z1
          go_wp2_with fail
          refine Z2.mono ?_
          rintro e wn ⟨rfl, hw⟩; rw [hw]; clear hw wn Z2
          go_wp2_with fail
          refine L1.mono ?_
          rintro e wn ⟨rfl, hw⟩; rw [hw]; clear hw wn L1
          go_wp2_with fail
          refine L2.mono ?_
          rintro e wn ⟨rfl, hw⟩; rw [hw]; clear hw wn L2
          go_wp2
          go_returns
          exact ⟨Below.refl _ _, HR.out⟩
      · have i1 : ¬ ((67108864 : Int) < (blen (val X) : Int)) := by omega
        have i2 : ¬ ((67108864 : Int) < (blen (val Y) : Int)) := by omega
        have HG := gcd_any va vb X Y w hA hA2 hT hf1 hf2
        have HA := hide hA
        have HA2 := hide hA2
        have HT := hide hT
        have HGX := hide (Nat.lt_of_le_of_lt (Nat.gcd_le_left (val Y) (Nat.pos_of_ne_zero hX)) (val_lt hA.limbs))
        have HP := hide (show Nat.gcd (val X) (val Y) ≠ 0 from fun h => hX (Nat.eq_zero_of_gcd_eq_zero_left h))
        generalize blen (val X) = lx at *
        generalize blen (val Y) = ly at *
        clear hA hA2 hT hX hY hbig g1 g2
        go_enter Tryd.func10, Tryd.ntmps10
        go_wp2_with fail
        refine Z1.mono ?_
        rintro e wn ⟨rfl, hw⟩; rw [hw]; clear hw wn Z1
        go_wp2_with fail
        refine Z2.mono ?_
        rintro e wn ⟨rfl, hw⟩; rw [hw]; clear hw wn Z2
        go_wp2_with fail
        refine L1.mono ?_
        rintro e wn ⟨rfl, hw⟩; rw [hw]; clear hw wn L1
        go_wp2_with fail
        refine L2.mono ?_
        rintro e wn ⟨rfl, hw⟩; rw [hw]; clear hw wn L2
        go_wp2_with fail
        refine HG.mono ?_
        rintro e w1 ⟨⟨vg, gs, rfl, A1, t1, e1⟩, hb1⟩
        have lg : gs.length ≤ 35184372088000 := by
          have h1 := tr_len_lt gs X.length (by rw [e1]; exact HGX.out)
          rw [t1] at h1
          omega
        have HDV := divisorOf_any vg gs w1 (A1.arg (by omega)) (HT.out.below hb1) (by rw [e1]; exact HP.out) lg
        have HB1 := hide hb1
        rw [e1] at HDV
        clear HG A1 t1 e1 hb1 lg
        go_wp2_with fail
        refine HDV.mono ?_
        rintro e w2 ⟨⟨vd, rfl, hd⟩, hb2⟩
        have HB2 := hide (HB1.out.trans (hb2.mono HB1.out.size))
        have HBO := both_any va vd X _ _ _ w2 (HA.out.below HB2.out) hd (HT.out.below HB2.out) (by omega)
        clear HDV hd hb2
        go_wp2_with fail
        refine HBO.mono ?_
        rintro e w3 ⟨⟨vq, vr, qs, rs, mid, rfl, A3, _, _, _, e3, _, l3, _, _⟩, hb3⟩
        have HB3 := hide (HB2.out.trans (hb3.mono HB2.out.size))
        have HM := mul_any vq vb qs Y w3 (A3.arg (by omega)) (HA2.out.below HB3.out) (HT.out.below HB3.out) (by omega)
        rw [e3] at HM
        clear HBO A3 e3 l3 hb3
        go_wp2_with fail
        refine HM.mono ?_
        rintro e w4 ⟨hb4, v4, c4, rs4, rfl, A4, h4⟩
        have HB4 := hide (HB3.out.trans (hb4.mono HB3.out.size))
        have HR := hide (And.intro (A4.base HB3.out.size) h4)
        clear HM A4 h4 hb4
        go_wp2
        go_returns
        exact ⟨HB4.out, v4, c4, rs4, rfl, HR.out.1, HR.out.2⟩

end Go.Proofs.YtelfjadonlgkiabDoor
