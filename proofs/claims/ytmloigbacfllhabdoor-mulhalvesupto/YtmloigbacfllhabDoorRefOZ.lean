/- The document's pieces of a product, of numbers that aren't great. -/
import Derived.Test.YtmloigbacfllhabDoorRefKZ
import Derived.Test.YtmloigbacfllhabDoorQG
import Derived.Test.YtmloigbacfllhabDoorLoHiZ
namespace Go.Proofs.YtmloigbacfllhabDoor
open Go.RowKit
open Lm

/-- Low of a number that has no more bits. -/
theorem rlow_far (v : Value) (x n : Nat) (w : World) (h : Num w v x) (hn : blen x ≤ n) (_hm : n ≤ 9223372036854775807) :
    Calls Tryd.prog 39 #[v, .int .i64 n] w fun e w' => (∃ v', e = .returned v' ∧ Num w' v' (x % 2 ^ n)) ∧ Below w.heap.size w w' := by
  have HL := len_any v x w h
  have hx : x < 2 ^ n := Nat.lt_of_lt_of_le (lt_blen x) (Nat.pow_le_pow_right (by omega) hn)
  rw [Nat.mod_eq_of_lt hx]
  have HN := hide h
  have i1 : ((blen x : Nat) : Int) ≤ (n : Int) := by omega
  clear h hx
  generalize blen x = y at *
  go_enter Tryd.func39, Tryd.ntmps39
  go_wp2_with fail
  refine HL.mono ?_
  rintro e w1 ⟨rfl, hw⟩; subst hw
  clear HL
  go_wp2
  go_ret
  exact ⟨⟨_, rfl, HN.out⟩, Below.refl _ _⟩

/-- Shr of a number that has no more bits, by far. -/
theorem rshr_far (v : Value) (x n : Nat) (w : World) (h : Num w v x) (hb : blen x ≤ 1125899906809856) (hn : 4611686018427387904 ≤ n) (hm : n ≤ 9223372036854775807) :
    Calls Tryd.prog 42 #[v, .int .i64 n] w fun e w' => (∃ v', e = .returned v' ∧ Num w' v' (x / 2 ^ n)) ∧ Below w.heap.size w w' := by
  have hx : x < 2 ^ n := Nat.lt_of_lt_of_le (lt_blen x) (Nat.pow_le_pow_right (by omega) (by omega))
  rw [Nat.div_eq_of_lt hx]
  obtain ⟨ds, hd1, hd2, hd3, hd4, hd5⟩ := h
  obtain ⟨ao, cap, rfl, hcap, hmax, _⟩ := hd1.form
  obtain ⟨q, eq, hq⟩ : ∃ q : Nat, (n : Int) / 32 = (q : Int) ∧ ds.length ≤ q := ⟨n / 32, by omega, by omega⟩
  have i1 : (ds.length : Int) ≤ (q : Int) := by omega
  clear hx hd1 hd2 hd3 hd4
  go_enter Tryd.func42, Tryd.ntmps42
  go_wp2
  go_ret
  exact ⟨⟨_, rfl, Num.nil _⟩, Below.refl _ _⟩

theorem rlow_all (v : Value) (x n : Nat) (w : World) (h : Num w v x) (hb : blen x ≤ 1125899906809856) (hm : n ≤ 9223372036854775807) :
    Calls Tryd.prog 39 #[v, .int .i64 n] w fun e w' => (∃ v', e = .returned v' ∧ Num w' v' (x % 2 ^ n)) ∧ Below w.heap.size w w' := by
  by_cases hn : n ≤ 4611686018427387904
  · exact rlow_any v x n w h hb hn
  · exact rlow_far v x n w h (by omega) hm

theorem rshr_all (v : Value) (x n : Nat) (w : World) (h : Num w v x) (hb : blen x ≤ 1125899906809856) (hm : n ≤ 9223372036854775807) :
    Calls Tryd.prog 42 #[v, .int .i64 n] w fun e w' => (∃ v', e = .returned v' ∧ Num w' v' (x / 2 ^ n)) ∧ Below w.heap.size w w' := by
  by_cases hn : n ≤ 4611686018427387904
  · exact rshr_any v x n w h hb hn
  · exact rshr_far v x n w h hb (by omega) hm

theorem rlow2_no (va vb : Value) (k : Int) (w : World) (hk : k < 0) :
    Calls Tryd.prog 10 #[va, vb, .int .i64 k] w fun e w' => e = .returned (.tuple #[.slice none 0 0, .int .i64 1]) ∧ w' = w := by
  go_enter Tryd.func10, Tryd.ntmps10
  go_wp2
  go_ret2
  exact ⟨rfl, rfl⟩

theorem rhigh2_no (va vb : Value) (k : Int) (w : World) (hk : k < 0) :
    Calls Tryd.prog 12 #[va, vb, .int .i64 k] w fun e w' => e = .returned (.tuple #[.slice none 0 0, .int .i64 1]) ∧ w' = w := by
  go_enter Tryd.func12, Tryd.ntmps12
  go_wp2
  go_ret2
  exact ⟨rfl, rfl⟩

theorem blen_mul_le (x y : Nat) : blen (x * y) ≤ blen x + blen y := (blen_le_iff _ _).2 (prod_lt x y)

theorem rlow2_any (va vb : Value) (x y k : Nat) (w : World) (hx : Num w va x) (hy : Num w vb y) (bx : blen x ≤ 1073741824) (by' : blen y ≤ 1073741824) (hk : k ≤ 9223372036854775807) :
    Calls Tryd.prog 10 #[va, vb, .int .i64 k] w fun e w' => Below w.heap.size w w' ∧ ResN w' e (x * y % 2 ^ k) := by
  have HM := rmul_any va vb x y w hx hy (by omega)
  have hm := blen_mul_le x y
  have hkd : decide ((k : Int) < 0) = false := decide_eq_false (by omega)
  clear hx hy
  go_enter Tryd.func10, Tryd.ntmps10
  go_wp2_with fail
  refine HM.mono ?_
  rintro e w1 ⟨⟨v1, rfl, N1⟩, hb⟩
  have HB := hide hb
  have HL := rlow_all v1 (x * y) k w1 N1 (by omega) hk
  clear hb HM N1
  go_wp2_with fail
  refine HL.mono ?_
  rintro e w2 ⟨⟨v2, rfl, N2⟩, hb⟩
  have HB2 := hid_below HB hb
  have HTO := told_any v2 _ w2 N2
  clear hb HL N2
  go_wp2_with fail
  refine HTO.mono ?_
  rintro e w4 ⟨hw, v, c, rfl, hres⟩; subst hw
  have HR := hide hres
  clear hres HTO
  go_wp2
  go_ret2
  exact ⟨HB2.out, v, c, rfl, HR.out⟩

theorem rhigh2_any (va vb : Value) (x y k : Nat) (w : World) (hx : Num w va x) (hy : Num w vb y) (bx : blen x ≤ 1073741824) (by' : blen y ≤ 1073741824) (hk : k ≤ 9223372036854775807) :
    Calls Tryd.prog 12 #[va, vb, .int .i64 k] w fun e w' => Below w.heap.size w w' ∧ ResN w' e (x * y / 2 ^ k) := by
  have HM := rmul_any va vb x y w hx hy (by omega)
  have hm := blen_mul_le x y
  have hkd : decide ((k : Int) < 0) = false := decide_eq_false (by omega)
  clear hx hy
  go_enter Tryd.func12, Tryd.ntmps12
  go_wp2_with fail
  refine HM.mono ?_
  rintro e w1 ⟨⟨v1, rfl, N1⟩, hb⟩
  have HB := hide hb
  have HL := rshr_all v1 (x * y) k w1 N1 (by omega) hk
  clear hb HM N1
  go_wp2_with fail
  refine HL.mono ?_
  rintro e w2 ⟨⟨v2, rfl, N2⟩, hb⟩
  have HB2 := hid_below HB hb
  have HTO := told_any v2 _ w2 N2
  clear hb HL N2
  go_wp2_with fail
  refine HTO.mono ?_
  rintro e w4 ⟨hw, v, c, rfl, hres⟩; subst hw
  have HR := hide hres
  clear hres HTO
  go_wp2
  go_ret2
  exact ⟨HB2.out, v, c, rfl, HR.out⟩

end Go.Proofs.YtmloigbacfllhabDoor
