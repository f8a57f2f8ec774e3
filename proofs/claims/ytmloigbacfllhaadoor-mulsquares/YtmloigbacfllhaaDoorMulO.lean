/- Package mul: part. -/
import Derived.Test.YtmloigbacfllhaaDoorMulN
import Derived.Test.YtmloigbacfllhaaDoorMulE
namespace Go.Proofs.YtmloigbacfllhaaDoor
open Go.RowKit
open Lm

/-- A value that lies off whatever the other lies off. -/
def Within (v u : Value) : Prop := (∀ bz lo hi, Off u bz lo hi → Off v bz lo hi) ∧ ∀ bz, Aside u bz → Aside v bz

theorem Arg.cut {w : World} {b off n cap : Nat} {X : List Nat} (h : Arg w (.slice (some ⟨b, off, none⟩) n cap) X) (i m : Nat) (hi : i + m ≤ n) : Arg w (.slice (some ⟨b, off + i, none⟩) m (cap - i)) ((X.drop i).take m) := by
  obtain ⟨ao, c, h1, h2, h3, h4⟩ := h.form
  cases h1
  have hl : ((X.drop i).take m).length = m := by simp; omega
  refine ⟨⟨_, _, by rw [hl], by rw [hl]; omega, by omega, ?_⟩, fun z hz => h.limbs z (List.mem_of_mem_drop (List.mem_of_mem_take hz)), by rw [hl]; have := h.few; omega, fun n c e => by cases e⟩
  rcases h4 with h4 | ⟨b', off', he, hc⟩
  · subst h4; exact .inl (by simp)
  · cases he
    refine .inr ⟨b, off + i, rfl, fun k hk => ?_⟩
    rw [hl] at hk
    rw [Nat.add_assoc, hc (i + k) (by omega)]
    simp [List.getD, hk]

theorem within_cut (b off n cap i m : Nat) (hi : i + m ≤ n) : Within (.slice (some ⟨b, off + i, none⟩) m (cap - i)) (.slice (some ⟨b, off, none⟩) n cap) := ⟨fun bz lo hi' h b' off' n' c' e => by
  cases e
  rcases h b off n cap rfl with h1 | h1 | h1
  · exact .inl h1
  · exact .inr (.inl (by omega))
  · exact .inr (.inr (by omega)), fun bz h b' off' n' c' e => by
  cases e
  exact h b off n cap rfl⟩

set_option maxHeartbeats 400000 in
theorem part_in (b off cap at' m : Nat) (X : List Nat) (w : World) (hA : Arg w (.slice (some ⟨b, off, none⟩) X.length cap) X) (hat : at' < X.length) (hm : m ≤ 1125899906842624) :
    Calls Tryd.prog 88 #[.slice (some ⟨b, off, none⟩) X.length cap, .int .i64 at', .int .i64 m] w fun e w' => (∃ v, e = .returned v ∧ Arg w v ((X.drop at').take m) ∧ Within v (.slice (some ⟨b, off, none⟩) X.length cap)) ∧ w' = w := by
  have hX := hA.few
  obtain ⟨_, _, e0, hcc, hcm, _⟩ := hA.form
  cases e0
  have i1 : (at' : Int) < (X.length : Int) := by omega
  have i2 : (0 : Int) ≤ (at' : Int) := by omega
  have k1 : ¬ cap = at' := by omega
  have m1 : min (at' : Int) (X.length : Int) = (at' : Int) := by omega
  by_cases h : at' + m ≤ X.length
  · have HA := hide (hA.cut at' m h)
    have HW := hide (within_cut b off X.length cap at' m h)
    obtain ⟨s, es, hs1, hs2, es2⟩ : ∃ s : Nat, (at' : Int) + (m : Int) = (s : Int) ∧ s ≤ X.length ∧ at' ≤ s ∧ s - at' = m := ⟨at' + m, by omega, h, by omega, by omega⟩
    have i3 : (s : Int) ≤ (X.length : Int) := by omega
    have i4 : (at' : Int) ≤ (s : Int) := by omega
    have m2 : min (s : Int) (X.length : Int) = (s : Int) := by omega
    clear hA h
    go_enter Tryd.func88, Tryd.ntmps88
    go_wp2
    go_ret
    exact ⟨⟨_, rfl, HA.out, HW.out⟩, rfl⟩
  · have et : (X.drop at').take m = (X.drop at').take (X.length - at') := by
      rw [List.take_of_length_le (by simp; omega), List.take_of_length_le (by simp)]
    have HA := hide (hA.cut at' (X.length - at') (by omega))
    rw [← et] at HA
    have HW := hide (within_cut b off X.length cap at' (X.length - at') (by omega))
    obtain ⟨s, es, hs1⟩ : ∃ s : Nat, (at' : Int) + (m : Int) = (s : Int) ∧ X.length ≤ s := ⟨at' + m, by omega, by omega⟩
    have m2 : min (s : Int) (X.length : Int) = (X.length : Int) := by omega
    have i4 : (at' : Int) ≤ (X.length : Int) := by omega
    clear hA h et
    go_enter Tryd.func88, Tryd.ntmps88
    go_wp2
    go_ret
    exact ⟨⟨_, rfl, HA.out, HW.out⟩, rfl⟩

/-- A list parted: the product of a longer beginning. -/
theorem pieces_step (X : List Nat) (t l y : Nat) : val (X.take (t + l)) * y = val (X.take t) * y + 18446744073709551616 ^ t * (val ((X.drop t).take l) * y) ∨ X.length < t := by
  by_cases h : t ≤ X.length
  · left
    rw [List.take_add, val_append, List.length_take, Nat.min_eq_left h, Nat.add_mul, Nat.mul_assoc]
  · exact .inr (by omega)

theorem val_take_le (X : List Nat) (t : Nat) : val (X.take t) ≤ val X := by
  conv => rhs; rw [← List.take_append_drop t X, val_append]
  omega

/-- There is room for the piece. -/
theorem pieces_fit (Z : List Nat) (o t n p tot : Nat) (ht : t ≤ n) (ho : o + n ≤ Z.length) (h : sv Z o n + 18446744073709551616 ^ t * p ≤ tot) (htot : tot < 18446744073709551616 ^ n) : sv Z (o + t) (n - t) + p < 18446744073709551616 ^ (n - t) := by
  obtain ⟨d, rfl⟩ : ∃ d, n = t + d := ⟨n - t, by omega⟩
  rw [sv_split _ _ _ _ (by omega)] at h
  rw [Nat.pow_add] at htot
  rw [Nat.add_sub_cancel_left]
  have h2 : 18446744073709551616 ^ t * (sv Z (o + t) d + p) < 18446744073709551616 ^ t * 18446744073709551616 ^ d := by
    rw [Nat.mul_add]; omega
  exact Nat.lt_of_mul_lt_mul_left h2

theorem pieces_add (Z Z' : List Nat) (o t n p : Nat) (ht : t ≤ n) (ho : o + n ≤ Z.length) (hO : Out Z Z' (o + t) (o + n)) (h : sv Z' (o + t) (n - t) = sv Z (o + t) (n - t) + p) : sv Z' o n = sv Z o n + 18446744073709551616 ^ t * p := by
  obtain ⟨d, rfl⟩ : ∃ d, n = t + d := ⟨n - t, by omega⟩
  rw [Nat.add_sub_cancel_left] at h
  rw [sv_split Z' _ _ _ (by rw [hO.len]; omega), sv_split Z _ _ _ (by omega), h, hO.sv o t (by omega), Nat.mul_add]
  omega

end Go.Proofs.YtmloigbacfllhaaDoor
