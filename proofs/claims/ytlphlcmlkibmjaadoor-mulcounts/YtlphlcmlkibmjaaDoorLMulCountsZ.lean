/- The walk of the law MulCounts. -/
import Derived.Test.YtlphlcmlkibmjaaDoorCntCZ
import Derived.Test.YtlphlcmlkibmjaaDoorQN
import Derived.Test.YtlphlcmlkibmjaaDoorRefKZ
namespace Go.Proofs.YtlphlcmlkibmjaaDoor
open Go.RowKit
open Lm

/-- An answer beside the document's: both the error c, or both the number x. -/
def Pair (w : World) (va : Value) (c : Int) (vn : Value) (x : Nat) : Prop :=
  (c = 1 ∧ (∃ ao cap, va = .slice ao 0 cap) ∧ vn = .slice none 0 0) ∨ (c = 0 ∧ ∃ rs, Arg w va rs ∧ val rs = x ∧ tr rs = rs ∧ Num w vn x ∧ blen x ≤ 67108864)

theorem Pair.below {w w' : World} {va vn : Value} {c : Int} {x : Nat} (h : Pair w va c vn x) (hb : Below w.heap.size w w') : Pair w' va c vn x := by
  rcases h with h | ⟨h1, rs, h2, h3, h4, h5, h6⟩
  · exact .inl h
  · exact .inr ⟨h1, rs, h2.below hb, h3, h4, h5.below hb, h6⟩

theorem alike_pair (va vn : Value) (c : Int) (x : Nat) (w : World) (h : Pair w va c vn x) :
    Calls Tryd.prog 12 #[va, .int .i64 c, vn, .int .i64 c] w fun e w' => e = .returned (.bool true) ∧ Below w.heap.size w w' := by
  rcases h with ⟨rfl, ⟨ao, cap, rfl⟩, rfl⟩ | ⟨rfl, rs, h2, h3, h4, h5, h6⟩
  · refine (alike_err ao cap _ 1 w (by omega)).mono ?_
    rintro e w' ⟨rfl, rfl⟩
    exact ⟨rfl, Below.refl _ _⟩
  · exact alike_val va vn rs x w h2 h5 h3 h4 (by omega)

/-- What the program's calls answer: the error 1, or the number. -/
def Said1 (w : World) (base : Nat) (e : Ending) (c : Int) (x : Nat) : Prop :=
  ∃ v, e = .returned (.tuple #[v, .int .i64 c]) ∧ ((c = 1 ∧ v = .slice none 0 0) ∨ (c = 0 ∧ Nv w base v x))

def SaidN (w : World) (e : Ending) (c : Int) (x : Nat) : Prop :=
  ∃ v, e = .returned (.tuple #[v, .int .i64 c]) ∧ ((c = 1 ∧ v = .slice none 0 0) ∨ (c = 0 ∧ Num w v x))

theorem fac_said (n : Int) (w : World) (hT : Tab w) : ∃ c x, (c = 1 ∨ c = 0 ∧ blen x ≤ 67108864) ∧ (Calls Tryd.prog 16 #[.int .i64 n] w fun e w' => Said1 w' w.heap.size e c x ∧ Below w.heap.size w w') ∧
    ∀ w, Calls Tryd.prog 19 #[.int .i64 n] w fun e w' => SaidN w' e c x ∧ Below w.heap.size w w' := by
  by_cases h : n < 0 ∨ 20000 < n
  · refine ⟨1, 0, .inl rfl, (mfac_no n w h).mono ?_, fun w => (rfac_no n w h).mono ?_⟩
    · rintro e w' ⟨rfl, rfl⟩; exact ⟨⟨_, rfl, .inl ⟨rfl, rfl⟩⟩, Below.refl _ _⟩
    · rintro e w' ⟨rfl, rfl⟩; exact ⟨⟨_, rfl, .inl ⟨rfl, rfl⟩⟩, Below.refl _ _⟩
  · obtain ⟨m, rfl⟩ : ∃ m : Nat, n = (m : Int) := ⟨n.toNat, by omega⟩
    refine ⟨0, facP 0 m, .inr ⟨rfl, ?_⟩, (mfac_any m w hT (by omega)).mono ?_, fun w => (rfac_any m w (by omega)).mono ?_⟩
    · have := facP_bits (a := 0) (n := m) (by omega); omega
    · rintro e w' ⟨⟨v, rfl, h1⟩, h2⟩; exact ⟨⟨_, rfl, .inr ⟨rfl, h1⟩⟩, h2⟩
    · rintro e w' ⟨⟨v, rfl, h1⟩, h2⟩; exact ⟨⟨_, rfl, .inr ⟨rfl, h1⟩⟩, h2⟩

theorem bin_said (n k : Int) (w : World) : ∃ c x, (c = 1 ∨ c = 0 ∧ blen x ≤ 67108864) ∧ (Calls Tryd.prog 17 #[.int .i64 n, .int .i64 k] w fun e w' => Said1 w' w.heap.size e c x ∧ Below w.heap.size w w') ∧
    ∀ w, Calls Tryd.prog 20 #[.int .i64 n, .int .i64 k] w fun e w' => SaidN w' e c x ∧ Below w.heap.size w w' := by
  by_cases h : n < 0 ∨ 20000 < n
  · refine ⟨1, 0, .inl rfl, (mbin_no n k w h).mono ?_, fun w => (rbin_no n k w h).mono ?_⟩
    · rintro e w' ⟨rfl, rfl⟩; exact ⟨⟨_, rfl, .inl ⟨rfl, rfl⟩⟩, Below.refl _ _⟩
    · rintro e w' ⟨rfl, rfl⟩; exact ⟨⟨_, rfl, .inl ⟨rfl, rfl⟩⟩, Below.refl _ _⟩
  · obtain ⟨m, rfl⟩ : ∃ m : Nat, n = (m : Int) := ⟨n.toNat, by omega⟩
    by_cases hk : k < 0 ∨ (m : Int) < k
    · refine ⟨0, 0, .inr ⟨rfl, by decide⟩, (mbin_none m k w (by omega) hk).mono ?_, fun w => (rbin_none m k w (by omega) hk).mono ?_⟩
      · rintro e w' ⟨rfl, rfl⟩; exact ⟨⟨_, rfl, .inr ⟨rfl, [], Ans.nil _ _, rfl, rfl, by simp⟩⟩, Below.refl _ _⟩
      · rintro e w' ⟨rfl, rfl⟩; exact ⟨⟨_, rfl, .inr ⟨rfl, Num.nil _⟩⟩, Below.refl _ _⟩
    · obtain ⟨j, rfl⟩ : ∃ j : Nat, k = (j : Int) := ⟨k.toNat, by omega⟩
      refine ⟨0, chN m j, .inr ⟨rfl, ?_⟩, (mbin_any m j w (by omega) (by omega)).mono ?_, fun w => (rbin_any m j w (by omega) (by omega)).mono ?_⟩
      · have := chN_bits (n := m) (k := j) (by omega); omega
      · rintro e w' ⟨⟨v, rfl, h1⟩, h2⟩; exact ⟨⟨_, rfl, .inr ⟨rfl, h1⟩⟩, h2⟩
      · rintro e w' ⟨⟨v, rfl, h1⟩, h2⟩; exact ⟨⟨_, rfl, .inr ⟨rfl, h1⟩⟩, h2⟩

theorem fib_said (n : Int) (w : World) : ∃ c x, (c = 1 ∨ c = 0 ∧ blen x ≤ 67108864) ∧ (Calls Tryd.prog 18 #[.int .i64 n] w fun e w' => Said1 w' w.heap.size e c x ∧ Below w.heap.size w w') ∧
    ∀ w, Calls Tryd.prog 21 #[.int .i64 n] w fun e w' => SaidN w' e c x ∧ Below w.heap.size w w' := by
  by_cases h : n < 0 ∨ 20000 < n
  · refine ⟨1, 0, .inl rfl, (mfib_no n w h).mono ?_, fun w => (rfib_no n w h).mono ?_⟩
    · rintro e w' ⟨rfl, rfl⟩; exact ⟨⟨_, rfl, .inl ⟨rfl, rfl⟩⟩, Below.refl _ _⟩
    · rintro e w' ⟨rfl, rfl⟩; exact ⟨⟨_, rfl, .inl ⟨rfl, rfl⟩⟩, Below.refl _ _⟩
  · obtain ⟨m, rfl⟩ : ∃ m : Nat, n = (m : Int) := ⟨n.toNat, by omega⟩
    refine ⟨0, fibN m, .inr ⟨rfl, ?_⟩, (mfib_any m w (by omega)).mono ?_, fun w => (rfib_any m w (by omega)).mono ?_⟩
    · have := (blen_le_iff (fibN m) m).2 (fibN_lt m).1; omega
    · rintro e w' ⟨⟨v, rfl, h1⟩, h2⟩; exact ⟨⟨_, rfl, .inr ⟨rfl, h1⟩⟩, h2⟩
    · rintro e w' ⟨⟨v, rfl, h1⟩, h2⟩; exact ⟨⟨_, rfl, .inr ⟨rfl, h1⟩⟩, h2⟩

theorem bst {a b c : World} (h : Below a.heap.size a b) (k : Below b.heap.size b c) : Below a.heap.size a c := h.trans (k.mono h.size)

theorem pair_of {w w' : World} {base : Nat} {va vn : Value} {c : Int} {x : Nat} (hc : c = 1 ∨ c = 0 ∧ blen x ≤ 67108864) (h1 : (c = 1 ∧ va = .slice none 0 0) ∨ (c = 0 ∧ Nv w base va x)) (hb : Below w.heap.size w w') (h2 : (c = 1 ∧ vn = .slice none 0 0) ∨ (c = 0 ∧ Num w' vn x)) : Pair w' va c vn x := by
  rcases h1 with ⟨e1, rfl⟩ | ⟨e1, h1⟩
  · rcases h2 with ⟨_, rfl⟩ | ⟨e2, _⟩
    · exact .inl ⟨e1, ⟨none, 0, rfl⟩, rfl⟩
    · omega
  · rcases h2 with ⟨e2, _⟩ | ⟨_, h2⟩
    · omega
    · obtain ⟨rs, a1, a2, a3, _⟩ := (h1.below hb).arg
      exact .inr ⟨e1, rs, a1, a2, a3, h2, by omega⟩

set_option maxHeartbeats 1000000 in
theorem mulCounts_walk (n k : Int) (w : World) (hT : Tab w) (_ : -9223372036854775808 ≤ n) (_ : n ≤ 9223372036854775807) (_ : -9223372036854775808 ≤ k) (_ : k ≤ 9223372036854775807) :
    Calls Tryd.prog 4 #[.int .i64 n, .int .i64 k] w fun e w' => e = .returned (.bool true) ∧ Below w.heap.size w w' := by
  have HT := hide hT
  obtain ⟨c1, x1, k1, F1, G1⟩ := fac_said n w hT
  have K1 := hide k1
  have HG1 := hide G1
  clear hT k1 G1
  go_enter Tryd.func4, Tryd.ntmps4
  go_wp2_with fail
  refine F1.mono ?_
  rintro e w1 ⟨⟨a1, rfl, p1⟩, hb1⟩
  obtain ⟨c2, x2, k2, F2, G2⟩ := bin_said n k w1
  have K2 := hide k2
  have HG2 := hide G2
  have P1 := hide p1
  have HB1 := hide hb1
  clear F1 p1 k2 G2 hb1
  go_wp2_with fail
  refine F2.mono ?_
  rintro e w2 ⟨⟨a2, rfl, p2⟩, hb2⟩
  obtain ⟨c3, x3, k3, F3, G3⟩ := fib_said n w2
  have K3 := hide k3
  have HG3 := hide G3
  have P2 := hide p2
  have HB2 := hide hb2
  clear F2 p2 k3 G3 hb2
  go_wp2_with fail
  refine F3.mono ?_
  rintro e w3 ⟨⟨a3, rfl, p3⟩, hb3⟩
  have P3 := hide p3
  have HB3 := hide hb3
  have F4 := HG1.out w3
  clear F3 p3 hb3 HG1
  go_wp2_with fail
  refine F4.mono ?_
  rintro e w4 ⟨⟨n1, rfl, q1⟩, hb4⟩
  have HB4 := hide hb4
  have Q1 := hide (pair_of K1.out P1.out (HB2.out.trans ((HB3.out.trans (hb4.mono HB3.out.size)).mono HB2.out.size)) q1)
  have F5 := HG2.out w4
  clear F4 q1 hb4 HG2
  go_wp2_with fail
  refine F5.mono ?_
  rintro e w5 ⟨⟨n2, rfl, q2⟩, hb5⟩
  have HB5 := hide hb5
  have Q2 := hide (pair_of K2.out P2.out (HB3.out.trans ((HB4.out.trans (hb5.mono HB4.out.size)).mono HB3.out.size)) q2)
  have Q12 := hide (Q1.out.below hb5)
  have F6 := HG3.out w5
  clear F5 q2 hb5 HG3 Q1
  go_wp2_with fail
  refine F6.mono ?_
  rintro e w6 ⟨⟨n3, rfl, q3⟩, hb6⟩
  have Q3 := hide (pair_of K3.out P3.out (HB4.out.trans ((HB5.out.trans (hb6.mono HB5.out.size)).mono HB4.out.size)) q3)
  have Q13 := hide (Q12.out.below hb6)
  have Q23 := hide (Q2.out.below hb6)
  have HB6 : Hid (Below w.heap.size w w6) := hide (bst HB1.out (bst HB2.out (bst HB3.out (bst HB4.out (bst HB5.out hb6)))))
  have A1 := alike_pair a1 n1 c1 x1 w6 Q13.out
  clear F6 q3 hb6 Q12 Q2 HB1 HB2 HB3 HB4 HB5 P1 P2 P3 K1 K2 K3
  go_wp2_with fail
  refine A1.mono ?_
  rintro e w7 ⟨rfl, hb7⟩
  have A2 := alike_pair a2 n2 c2 x2 w7 (Q23.out.below hb7)
  have Q33 := hide (Q3.out.below hb7)
  have HB7 := hide (bst HB6.out hb7)
  clear A1 hb7
  go_wp2_with fail
  refine A2.mono ?_
  rintro e w8 ⟨rfl, hb8⟩
  have A3 := alike_pair a3 n3 c3 x3 w8 (Q33.out.below hb8)
  have HB8 := hide (bst HB7.out hb8)
  clear A2 hb8
  go_wp2_with fail
  refine A3.mono ?_
  rintro e w9 ⟨rfl, hb9⟩
  have HB9 := hide (bst HB8.out hb9)
  have HA := awake_any w9 (HT.out.below HB9.out)
  clear A3 hb9
  go_wp2_with fail
  refine HA.mono ?_
  rintro e wa ⟨rfl, hba⟩
  have HBA := hide (bst HB9.out hba)
  clear HA hba
  go_wp2
  go_ret
  exact ⟨rfl, HBA.out⟩

end Go.Proofs.YtlphlcmlkibmjaaDoor
