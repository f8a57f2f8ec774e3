/- The walk of the law NatThrough. -/
import Derived.Test.YthcdjlhhiheclabLives
import Derived.Test.YthcdjlhhiheclabOks
import Derived.Test.YthcdjlhhiheclabNatJ
namespace Go.Proofs.Ythcdjlhhiheclab
open Go.RowKit
open Lm

theorem hid_below {w a b : World} (h : Hid (Below w.heap.size w a)) (hb : Below a.heap.size a b) : Hid (Below w.heap.size w b) := h.out.trans (hb.mono h.out.size)
theorem Same.top {a b : World} (h : Same a b) : Below a.heap.size a b := h.below _

theorem times_ok (v1 : Value) (zs : List Nat) (m : Nat) (w : World) (h1 : Arg w v1 zs) (hm : m < 18446744073709551616) (f1 : zs.length ≤ 35184372088831) (h : blen (val zs * m) ≤ 67108864) :
    Calls Try.prog 15 #[v1, .int .u64 m] w fun e w' => Okv w' e (val zs * m) ∧ Below w.heap.size w w' :=
  (times_any v1 zs m w h1 hm f1).mono fun _ _ ⟨hb, hr⟩ => ⟨hr.ok h, hb⟩

theorem through_ok (v1 : Value) (zs : List Nat) (d r : Nat) (w : World) (hr : val zs % d = r) (h1 : Arg w v1 zs) (hd : d < 18446744073709551616) (hd0 : 0 < d) (f1 : zs.length ≤ 35184372088831) (h : blen (val zs / d) ≤ 67108864) :
    Calls Try.prog 14 #[v1, .int .u64 d] w fun e w' => (∃ v rs, e = .returned (.tuple #[v, .int .u64 ((r : Nat) : Int), .int .i64 0]) ∧ Arg w' v rs ∧ val rs = val zs / d ∧ rs.length ≤ 1048576) ∧ Below w.heap.size w w' := by
  refine (through_any v1 zs d w h1 hd hd0 f1).mono ?_
  subst hr
  rintro e w' ⟨hb, v, c, rs, r, rfl, hans, ⟨rfl, hv, ht, rfl, _⟩ | ⟨_, _, _, hbad⟩⟩
  · have hl : rs.length ≤ 1048576 := by
      have := few_limbs rs 1048576 (by rw [hv]; omega)
      rwa [ht] at this
    exact ⟨⟨v, rs, rfl, hans.arg (by omega), hv, hl⟩, hb⟩
  · omega

theorem from_ok (x : Nat) (w : World) (hx : x < 18446744073709551616) :
    Calls Try.prog 16 #[.int .u64 x] w fun e w' => (∃ v rs, e = .returned v ∧ Arg w' v rs ∧ val rs = x ∧ rs.length ≤ 1) ∧ Below w.heap.size w w' := by
  refine (from_any x w hx).mono ?_
  rintro e w' ⟨⟨v, rfl, hans⟩, hb⟩
  have hl := tr_length_le [x]
  exact ⟨⟨v, tr [x], rfl, hans.arg (Nat.le_trans hl (by simp)), by rw [val_tr]; simp [val], hl⟩, hb⟩

set_option maxRecDepth 100000 in
set_option maxHeartbeats 1000000 in
theorem natThrough_main (v0 : Value) (z0 : List Nat) (d : Nat) (w : World) (A0 : Arg w v0 z0) (s0 : z0.length ≤ 17592186043904) (hd : d < 18446744073709551616) (hd0 : 0 < d) (hA : blen (val z0) ≤ 33554432) :
    Calls Try.prog 4 #[v0, .int .u64 d] w fun e w' => e = .returned (.bool true) ∧ Below w.heap.size w w' := by
  have HB : Hid (Below w.heap.size w w) := Below.refl _ _
  have hdz : ((d : Int) == 0) = false := by rw [beq_eq_false_iff_ne]; omega
  have b1 : blen (val z0 / d) ≤ 33554432 := Nat.le_trans (blen_mono (Nat.div_le_self _ _)) hA
  have b2 : blen (val z0 / d * d) ≤ 33554432 := Nat.le_trans (blen_mono (Nat.div_mul_le_self _ _)) hA
  have he := Nat.div_add_mod' (val z0) d
  have hr : val z0 % d < d := Nat.mod_lt _ hd0
  generalize hrm : val z0 % d = r at *
  have HRM := hide hrm
  have HE := hide he
  clear hrm he
  have hri : (r : Int) < (d : Int) := by omega
  go_enter Try.func4, Try.ntmps4
  go_wp2_with fail
  refine (length_val _ _ _ A0).mono ?_
  rintro e wn ⟨rfl, hw⟩; subst hw
  go_wp2_with fail
  refine (through_ok _ _ d r _ HRM.out A0 hd hd0 (by omega) (by omega)).mono ?_
  rintro e wn ⟨⟨vq, rq, rfl, Aq, eq, lq⟩, hb⟩
  replace A0 := A0.below hb; replace HB := hid_below HB hb
  have Eq := hide eq
  clear hb eq
  go_wp2_with fail
  refine (times_ok _ _ d _ Aq hd (by omega) (by rw [Eq.out]; omega)).mono ?_
  rintro e wn ⟨⟨vt, rt, rfl, At, et, lt⟩, hb⟩
  rw [Eq.out] at et
  replace A0 := A0.below hb; replace HB := hid_below HB hb
  have Et := hide et
  clear hb et Eq Aq
  go_wp2_with fail
  refine (from_ok _ _ (by omega)).mono ?_
  rintro e wn ⟨⟨vf, rf, rfl, Af, ef, lf⟩, hb⟩
  replace A0 := A0.below hb; replace At := At.below hb; replace HB := hid_below HB hb
  have Ef := hide ef
  clear hb ef
  go_wp2_with fail
  refine (add_ok _ _ _ _ _ At Af (by omega) (by omega) (by rw [Et.out, Ef.out, HE.out]; omega)).mono ?_
  rintro e wn ⟨⟨vs, rs, rfl, As, es, ls⟩, hb⟩
  rw [Et.out, Ef.out, HE.out] at es
  replace A0 := A0.below hb; replace HB := hid_below HB hb
  have Es := hide es
  clear hb es Et Ef At Af
  go_wp2_with fail
  refine (compare_any _ _ _ _ _ As A0).mono ?_
  rintro e wn ⟨rfl, hs⟩
  rw [Es.out, cmpN_self]
  replace HB := hid_below HB hs.top
  clear hs Es As A0
  go_wp2_with fail
  refine (lives_any _).mono ?_
  rintro e wn ⟨rfl, hb⟩
  replace HB := hid_below HB hb
  clear hb
  go_wp2
  go_ret
  exact ⟨rfl, HB.out⟩

set_option maxRecDepth 100000 in
theorem natThrough_zero (v0 : Value) (w : World) :
    Calls Try.prog 4 #[v0, .int .u64 0] w fun e w' => e = .returned (.bool true) ∧ Below w.heap.size w w' := by
  go_enter Try.func4, Try.ntmps4
  go_wp2_with fail
  refine (lives_any _).mono ?_
  rintro e wn ⟨rfl, hb⟩
  have HB := hide hb
  clear hb
  go_wp2
  go_ret
  exact ⟨rfl, HB.out⟩

set_option maxRecDepth 100000 in
theorem natThrough_long (v0 : Value) (z0 : List Nat) (d : Nat) (w : World) (A0 : Arg w v0 z0) (hd0 : 0 < d) (hA : ¬ blen (val z0) ≤ 33554432) :
    Calls Try.prog 4 #[v0, .int .u64 d] w fun e w' => e = .returned (.bool true) ∧ Below w.heap.size w w' := by
  have hdz : ((d : Int) == 0) = false := by rw [beq_eq_false_iff_ne]; omega
  go_enter Try.func4, Try.ntmps4
  go_wp2_with fail
  refine (length_val _ _ _ A0).mono ?_
  rintro e wn ⟨rfl, hw⟩; subst hw
  go_wp2_with fail
  refine (lives_any _).mono ?_
  rintro e wn ⟨rfl, hb⟩
  have HB := hide hb
  clear hb
  go_wp2
  go_ret
  exact ⟨rfl, HB.out⟩

theorem natThrough_walk (v0 : Value) (z0 : List Nat) (n : Int) (w : World) (A0 : Arg w v0 z0) (s0 : z0.length ≤ 17592186043904) (h1 : 0 ≤ n) (h2 : n ≤ 18446744073709551615) :
    Calls Try.prog 4 #[v0, .int .u64 n] w fun e w' => e = .returned (.bool true) ∧ Below w.heap.size w w' := by
  obtain ⟨d, rfl⟩ := Int.eq_ofNat_of_zero_le h1
  by_cases h : d = 0
  · subst h; exact natThrough_zero v0 w
  · by_cases hA : blen (val z0) ≤ 33554432
    · exact natThrough_main v0 z0 d w A0 s0 (by omega) (by omega) hA
    · exact natThrough_long v0 z0 d w A0 (by omega) hA

end Go.Proofs.Ythcdjlhhiheclab
