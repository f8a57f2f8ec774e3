/- The document's halves of a number. -/
import Derived.Test.YtmloigbacfllhaaDoorRefKZ
namespace Go.Proofs.YtmloigbacfllhaaDoor
open Go.RowKit
open Lm

set_option maxHeartbeats 400000 in
theorem rhalves_any (v : Value) (x : Nat) (k : Int) (w : World) (h : Num w v x) (hk : 0 ≤ k) (hf : blen x ≤ 1125899906809856) :
    Calls Tryd.prog 56 #[v, .int .i64 k] w fun e w' => (∃ v1 v2, e = .returned (.tuple #[v1, v2]) ∧ Num w' v1 (x % 18446744073709551616 ^ k.toNat) ∧ Num w' v2 (x / 18446744073709551616 ^ k.toNat)) ∧ Below w.heap.size w w' := by
  obtain ⟨ds, hd1, hd2, hd3, hd4, hd5⟩ := id h
  obtain ⟨ao, cap, rfl, hcap, hmax, _⟩ := hd1.form
  by_cases hge : ds.length ≤ k.toNat
  · have hx : x < 18446744073709551616 ^ k.toNat := by
      rw [← hd4]
      refine Nat.lt_of_lt_of_le (vb_lt hd2) ?_
      exact Nat.le_trans (Nat.pow_le_pow_left (by omega) _) (Nat.pow_le_pow_right (by omega) hge)
    rw [Nat.mod_eq_of_lt hx, Nat.div_eq_of_lt hx]
    have i1 : (ds.length : Int) ≤ k := by omega
    have HN := hide h
    clear h hd1 hd2 hd3 hd4 hx hge
    go_enter Tryd.func56, Tryd.ntmps56
    go_wp2
    go_ret2
    exact ⟨⟨_, _, rfl, HN.out, Num.nil _⟩, Below.refl _ _⟩
  · obtain ⟨n, rfl⟩ := Int.eq_ofNat_of_zero_le hk
    rw [Int.toNat_natCast] at *
    have i1 : decide ((ds.length : Int) ≤ (n : Int)) = false := decide_eq_false (by omega)
    have i2 : decide (ds.length ≤ n) = false := decide_eq_false (by omega)
    obtain ⟨m, em, hm1, hm2⟩ : ∃ m : Nat, (64 : Int) * (n : Int) = (m : Int) ∧ m = n * 64 ∧ m ≤ 4611686018427387904 := ⟨n * 64, by omega, rfl, by omega⟩
    rw [W_pow, ← hm1]
    have HL := rlow_any _ x m w h hf hm2
    have HN := hide h
    clear h hd1 hd2 hd3 hd4 hge hm1
    go_enter Tryd.func56, Tryd.ntmps56
    go_wp2_with fail
    refine HL.mono ?_
    rintro e w1 ⟨⟨v1, rfl, N1⟩, hb⟩
    have HR := rshr_any _ x m w1 (HN.out.below hb) hf hm2
    have HB := hide hb
    have HN1 := hide N1
    clear hb N1 HL
    go_wp2_with fail
    refine HR.mono ?_
    rintro e w2 ⟨⟨v2, rfl, N2⟩, hb⟩
    have HN1' := hide (HN1.out.below hb)
    have HN2 := hide N2
    have HB2 : Hid (Below w.heap.size w w2) := hide (HB.out.trans (hb.mono HB.out.size))
    clear hb N2 HR
    go_wp2
    go_ret2
    exact ⟨⟨_, _, rfl, HN1'.out, HN2.out⟩, HB2.out⟩

theorem rsplit_no (v : Value) (k : Int) (w : World) (hk : k < 0) :
    Calls Tryd.prog 35 #[v, .int .i64 k] w fun e w' => e = .returned (.tuple #[.slice none 0 0, .slice none 0 0, .int .i64 1]) ∧ w' = w := by
  go_enter Tryd.func35, Tryd.ntmps35
  go_wp2
  go_returns
  exact ⟨rfl, rfl⟩

/-- Two numbers of the reference, or ErrBig. -/
def ResN2 (w : World) (e : Ending) (s t : Nat) : Prop :=
  ∃ v1 v2 c, e = .returned (.tuple #[v1, v2, .int .i64 c]) ∧ ((c = 0 ∧ Num w v1 s ∧ Num w v2 t ∧ blen s ≤ 67108864 ∧ blen t ≤ 67108864) ∨ (c = 3 ∧ (67108864 < blen s ∨ 67108864 < blen t)))

set_option maxHeartbeats 400000 in
theorem rsplit_any (v : Value) (x : Nat) (k : Int) (w : World) (h : Num w v x) (hk : 0 ≤ k) (hf : blen x ≤ 1125899906809856) :
    Calls Tryd.prog 35 #[v, .int .i64 k] w fun e w' => Below w.heap.size w w' ∧ ResN2 w' e (x % 18446744073709551616 ^ k.toNat) (x / 18446744073709551616 ^ k.toNat) := by
  have HH := rhalves_any v x k w h hk hf
  have hkd : decide (k < 0) = false := decide_eq_false (by omega)
  unfold ResN2
  clear h
  generalize x % 18446744073709551616 ^ k.toNat = s at *
  generalize x / 18446744073709551616 ^ k.toNat = t at *
  go_enter Tryd.func35, Tryd.ntmps35
  go_wp2_with fail
  refine HH.mono ?_
  rintro e w1 ⟨⟨v1, v2, rfl, N1, N2⟩, hb⟩
  have L1 := len_any v1 s w1 N1
  have L2 := len_any v2 t w1 N2
  have HD := hide (And.intro hb (And.intro N1 N2))
  clear hb N1 N2 HH
  by_cases h1 : blen s ≤ 67108864
  · have d1 : decide ((67108864 : Int) < ((blen s : Nat) : Int)) = false := decide_eq_false (by omega)
    by_cases h2 : blen t ≤ 67108864
    · have d2 : decide ((67108864 : Int) < ((blen t : Nat) : Int)) = false := decide_eq_false (by omega)
      go_wp2_with fail
      refine L1.mono ?_
      rintro e w2 ⟨rfl, hw⟩; subst hw
      clear L1
      go_wp2_with fail
      refine L2.mono ?_
      rintro e w2 ⟨rfl, hw⟩; subst hw
      clear L2
      go_wp2
      go_returns
      exact ⟨HD.out.1, _, _, _, rfl, .inl ⟨rfl, HD.out.2.1, HD.out.2.2, h1, h2⟩⟩
    · have d2 : (67108864 : Int) < ((blen t : Nat) : Int) := by omega
      go_wp2_with fail
      refine L1.mono ?_
      rintro e w2 ⟨rfl, hw⟩; subst hw
      clear L1
      go_wp2_with fail
      refine L2.mono ?_
      rintro e w2 ⟨rfl, hw⟩; subst hw
      clear L2
      go_wp2
      go_returns
      exact ⟨HD.out.1, _, _, _, rfl, .inr ⟨rfl, .inr (by omega)⟩⟩
  · have d1 : (67108864 : Int) < ((blen s : Nat) : Int) := by omega
    go_wp2_with fail
    refine L1.mono ?_
    rintro e w2 ⟨rfl, hw⟩; subst hw
    clear L1
    go_wp2
    go_returns
    exact ⟨HD.out.1, _, _, _, rfl, .inr ⟨rfl, .inl (by omega)⟩⟩

end Go.Proofs.YtmloigbacfllhaaDoor
