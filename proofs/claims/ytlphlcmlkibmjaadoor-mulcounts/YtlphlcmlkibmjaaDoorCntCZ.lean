/- The document's factorials, binomial numbers and Fibonacci's numbers. -/
import Derived.Test.YtlphlcmlkibmjaaDoorRefKZ
import Derived.Test.YtlphlcmlkibmjaaDoorQG
import Derived.Test.YtlphlcmlkibmjaaDoorQN
import Derived.Handy
namespace Go.Proofs.YtlphlcmlkibmjaaDoor
open Go.RowKit
open Lm
attribute [local go_sem ↓] Go.wp_at_zero Go.wp_at_succ

theorem rint_big (c : Nat) (w : World) (hc : c < 9223372036854775808) : Calls Tryd.prog 38 #[.int .i64 c] w fun e w' => (∃ v, e = .returned v ∧ Num w' v c) ∧ Below w.heap.size w w' := by
  have hA := Arg.lits w [c] #[.int .u64 (c : Int)] 1 rfl rfl (by intro z hz; simp at hz; omega) (by simp)
  have hb : Below w.heap.size w (w.alloc (.cells #[.int .u64 (c : Int)] 47)) := (Below.refl _ _).alloc (Nat.le_refl _) _
  have HO := of_any _ [c] _ hA (by simp)
  rw [show val [c] = c by simp [val]] at HO
  have HB := hide hb
  clear hA hb
  go_enter Tryd.func38, Tryd.ntmps38
  go_wp2_with fail
  refine HO.mono ?_
  rintro e w2 ⟨⟨v, rfl, N⟩, hb2⟩
  have HX := hide (And.intro N (HB.out.trans (hb2.mono HB.out.size)))
  clear N hb2 HO
  go_wp2
  go_ret
  exact ⟨⟨v, rfl, HX.out.1⟩, HX.out.2⟩

theorem blen_of_lt {x n : Nat} (h : x < 2 ^ n) : blen x ≤ n := (blen_le_iff x n).2 h

theorem blen_pow_le' {x n : Nat} (h : x ≤ 2 ^ n) : blen x ≤ n + 1 := (blen_le_iff x _).2 (Nat.lt_of_le_of_lt h (Nat.pow_lt_pow_right (by omega) (by omega)))

theorem blen_mul_le {a b m n : Nat} (ha : blen a ≤ m) (hb : blen b ≤ n) : blen (a * b) ≤ m + n := by
  refine (blen_le_iff _ _).2 ?_
  have h1 := (blen_le_iff a m).1 ha
  have h2 := (blen_le_iff b n).1 hb
  rw [Nat.pow_add]
  exact Nat.mul_lt_mul_of_lt_of_lt h1 h2

theorem blen_small {x : Nat} (h : x < 18446744073709551616) : blen x ≤ 64 := (blen_le_iff x 64).2 h

theorem rfac_no (n : Int) (w : World) (h : n < 0 ∨ 20000 < n) :
    Calls Tryd.prog 19 #[.int .i64 n] w fun e w' => e = .returned (.tuple #[.slice none 0 0, .int .i64 1]) ∧ w' = w := by
  by_cases h0 : n < 0
  · clear h
    go_enter Tryd.func19, Tryd.ntmps19
    go_wp2
    go_returns
    exact ⟨rfl, rfl⟩
  · have h1 : 20000 < n := by omega
    clear h
    go_enter Tryd.func19, Tryd.ntmps19
    go_wp2
    go_returns
    exact ⟨rfl, rfl⟩

theorem rbin_no (n k : Int) (w : World) (h : n < 0 ∨ 20000 < n) :
    Calls Tryd.prog 20 #[.int .i64 n, .int .i64 k] w fun e w' => e = .returned (.tuple #[.slice none 0 0, .int .i64 1]) ∧ w' = w := by
  by_cases h0 : n < 0
  · clear h
    go_enter Tryd.func20, Tryd.ntmps20
    go_wp2
    go_returns
    exact ⟨rfl, rfl⟩
  · have h1 : 20000 < n := by omega
    clear h
    go_enter Tryd.func20, Tryd.ntmps20
    go_wp2
    go_returns
    exact ⟨rfl, rfl⟩

theorem rbin_none (n : Nat) (k : Int) (w : World) (hn : n ≤ 20000) (h : k < 0 ∨ (n : Int) < k) :
    Calls Tryd.prog 20 #[.int .i64 n, .int .i64 k] w fun e w' => e = .returned (.tuple #[.slice none 0 0, .int .i64 0]) ∧ w' = w := by
  by_cases h0 : k < 0
  · clear h
    go_enter Tryd.func20, Tryd.ntmps20
    go_wp2
    go_returns
    exact ⟨rfl, rfl⟩
  · have h1 : (n : Int) < k := by omega
    clear h
    go_enter Tryd.func20, Tryd.ntmps20
    go_wp2
    go_returns
    exact ⟨rfl, rfl⟩

theorem rfib_no (n : Int) (w : World) (h : n < 0 ∨ 20000 < n) :
    Calls Tryd.prog 21 #[.int .i64 n] w fun e w' => e = .returned (.tuple #[.slice none 0 0, .int .i64 1]) ∧ w' = w := by
  by_cases h0 : n < 0
  · clear h
    go_enter Tryd.func21, Tryd.ntmps21
    go_wp2
    go_returns
    exact ⟨rfl, rfl⟩
  · have h1 : 20000 < n := by omega
    clear h
    go_enter Tryd.func21, Tryd.ntmps21
    go_wp2
    go_returns
    exact ⟨rfl, rfl⟩

set_option maxRecDepth 20000 in
set_option maxHeartbeats 1000000 in
theorem rfac_any (n : Nat) (w : World) (hn : n ≤ 20000) :
    Calls Tryd.prog 19 #[.int .i64 n] w fun e w' => (∃ v, e = .returned (.tuple #[v, .int .i64 0]) ∧ Num w' v (facP 0 n)) ∧ Below w.heap.size w w' := by
  obtain ⟨R, hR⟩ : ∃ R, facP 0 n = R := ⟨_, rfl⟩
  rw [hR]
  have HR := hide hR
  clear hR
  have HO := rint_big 1 w (by omega)
  go_enter Tryd.func19, Tryd.ntmps19
  go_wp2_with fail
  refine HO.mono ?_
  rintro e w1 ⟨⟨v1, rfl, N1⟩, hb1⟩
  have HN1 := hide N1
  have HB1 := hide hb1
  clear HO N1 hb1
  go_wp2
  go_loopw [4, 5] (fun v i wr => ∃ (k c : Nat) (v' : Value), v = v' ∧ i = .int .i64 ((k + 2 : Nat) : Int) ∧ (k + 1 ≤ n ∨ k = 0) ∧ Num wr v' c ∧ c = facP 0 (k + 1) ∧ Below w.heap.size w wr) (fun _ i _ => (20002 - intOf i).toNat)
  case atStart => exact ⟨0, 1, _, rfl, rfl, .inr rfl, HN1.out, rfl, HB1.out⟩
  case round =>
    obtain ⟨k, c, v', rfl, rfl, hk, hnum, hc, hbel⟩ := hrel
    have HN := hide hnum
    have HC := hide hc
    have HB := hide hbel
    have hkn : k ≤ 20000 := by omega
    clear hnum hc hbel HN1 HB1
    by_cases hin : k + 2 ≤ n
    · have HI := rint_big (k + 2) wr (by omega)
      have i1 : ((k + 2 : Nat) : Int) ≤ (n : Int) := by omega
      clear hk
      go_wp2_with fail
      refine HI.mono ?_
      rintro e w2 ⟨⟨v2, rfl, N2⟩, hb2⟩
      have bc : blen c ≤ 300100 := by
        rw [HC.out]
        refine Nat.le_trans (blen_of_lt (facP_lt 0 (k + 1) (by omega))) (by omega)
      have bk : blen (k + 2) ≤ 64 := blen_small (by omega)
      have HM := rmul_any _ _ _ _ w2 (HN.out.below hb2) N2 (by omega)
      have HB2 := hide (HB.out.trans (hb2.mono HB.out.size))
      clear HI N2 hb2 bc bk
      go_wp2_with fail
      refine HM.mono ?_
      rintro e w3 ⟨⟨v3, rfl, N3⟩, hb3⟩
      have HN3 := hide N3
      have HB3 := hide (HB2.out.trans (hb3.mono HB2.out.size))
      clear HM N3 hb3
      go_wp2
      go_round
      case rel =>
        refine ⟨k + 1, _, _, rfl, by congr 1, .inl (by omega), HN3.out, ?_, HB3.out⟩
        rw [HC.out]
        show facP 0 (k + 1) * (k + 2) = facP 0 (k + 1) * (0 + (k + 1) + 1)
        congr 1; omega
      case measure => simp [intOf]; omega
    · have i1 : ¬ (((k + 2 : Nat) : Int) ≤ (n : Int)) := by omega
      have HE : Hid (c = R) := by
        rw [← HR.out, HC.out]
        rcases hk with h1 | h1
        · rw [show k + 1 = n by omega]; exact hide rfl
        · subst h1
          rcases Nat.eq_zero_or_pos n with z | z
          · subst z; exact hide rfl
          · rw [show n = 1 by omega]; exact hide rfl
      clear hk
      go_wp2
      go_returns
      exact ⟨⟨_, rfl, by rw [← HE.out]; exact HN.out⟩, HB.out⟩

set_option maxRecDepth 20000 in
set_option maxHeartbeats 1000000 in
theorem rbin_any (n k : Nat) (w : World) (hn : n ≤ 20000) (hkn : k ≤ n) :
    Calls Tryd.prog 20 #[.int .i64 n, .int .i64 k] w fun e w' => (∃ v, e = .returned (.tuple #[v, .int .i64 0]) ∧ Num w' v (chN n k)) ∧ Below w.heap.size w w' := by
  obtain ⟨R, hR⟩ : ∃ R, chN n k = R := ⟨_, rfl⟩
  rw [hR]
  obtain ⟨d, hd⟩ : ∃ d, n = d + k := ⟨n - k, by omega⟩
  have HD := hide hd
  have HR : Hid (chN (d + k) k = R) := by rw [← hd]; exact hide hR
  have hdk : (n : Int) - (k : Int) = (d : Int) := by omega
  have hd2 : d ≤ 20000 := by omega
  have i0 : ¬ ((k : Int) < 0) := by omega
  have i2 : ¬ ((n : Int) < (k : Int)) := by omega
  clear hR hd
  have HO := rint_big 1 w (by omega)
  go_enter Tryd.func20, Tryd.ntmps20
  go_wp2_with fail
  refine HO.mono ?_
  rintro e w1 ⟨⟨v1, rfl, N1⟩, hb1⟩
  have HN1 := hide N1
  have HB1 := hide hb1
  clear HO N1 hb1
  go_wp2
  go_loopw [6, 7] (fun v i wr => ∃ (j c : Nat) (v' : Value), v = v' ∧ i = .int .i64 ((j + 1 : Nat) : Int) ∧ j ≤ k ∧ Num wr v' c ∧ c = chN (d + j) j ∧ Below w.heap.size w wr) (fun _ i _ => (20002 - intOf i).toNat)
  case atStart => exact ⟨0, 1, _, rfl, rfl, Nat.zero_le _, HN1.out, (chN_zero _).symm, HB1.out⟩
  case round =>
    obtain ⟨j, c, v', rfl, rfl, hj, hnum, hc, hbel⟩ := hrel
    have HN := hide hnum
    have HC := hide hc
    have HB := hide hbel
    clear hnum hc hbel HN1 HB1
    by_cases hin : j + 1 ≤ k
    · have i1 : ((j + 1 : Nat) : Int) ≤ (k : Int) := by omega
      have HI := rint_big (d + (j + 1)) wr (by have := HD.out; omega)
      have hdj : (d : Int) + ((j + 1 : Nat) : Int) = ((d + (j + 1) : Nat) : Int) := by omega
      have hsum : d + (j + 1) ≤ 20000 := by have := HD.out; omega
      go_wp2_with fail
      refine HI.mono ?_
      rintro e w2 ⟨⟨v2, rfl, N2⟩, hb2⟩
      have bc : blen c ≤ 20001 := by
        rw [HC.out]
        have := blen_pow_le' (chN_le (d + j) j)
        omega
      have bk : blen (d + (j + 1)) ≤ 64 := blen_small (by omega)
      have HM := rmul_any _ _ _ _ w2 (HN.out.below hb2) N2 (by omega)
      have HB2 := hide (HB.out.trans (hb2.mono HB.out.size))
      have HBC := hide (And.intro bc bk)
      clear HI N2 hb2 bc bk
      go_wp2_with fail
      refine HM.mono ?_
      rintro e w3 ⟨⟨v3, rfl, N3⟩, hb3⟩
      have HN3 := hide N3
      have HB3 := hide (HB2.out.trans (hb3.mono HB2.out.size))
      clear HM N3 hb3
      have HI := rint_big (j + 1) w3 (by omega)
      go_wp2_with fail
      refine HI.mono ?_
      rintro e w4 ⟨⟨v4, rfl, N4⟩, hb4⟩
      have bm : blen (c * (d + (j + 1))) ≤ 40002 := by
        have := blen_mul_le HBC.out.1 HBC.out.2
        omega
      have bj : blen (j + 1) ≤ 64 := blen_small (by omega)
      have HV := rdiv_any _ _ _ _ w4 (HN3.out.below hb4) N4 (by omega) (by omega) (by omega)
      have HB4 := hide (HB3.out.trans (hb4.mono HB3.out.size))
      clear HI N4 hb4 bm bj HBC
      go_wp2_with fail
      refine HV.mono ?_
      rintro e w5 ⟨⟨vq, vr, rfl, N5, _⟩, hb5⟩
      have HN5 := hide N5
      have HB5 := hide (HB4.out.trans (hb5.mono HB4.out.size))
      clear HV N5 hb5
      go_wp2
      go_round
      case rel =>
        refine ⟨j + 1, _, _, rfl, by congr 1, hin, HN5.out, ?_, HB5.out⟩
        rw [HC.out]
        have h := chN_up (d + j) j
        rw [show d + (j + 1) = d + j + 1 by omega, ← h]
        exact Nat.mul_div_cancel _ (by omega)
      case measure => simp [intOf]; omega
    · have i1 : ¬ (((j + 1 : Nat) : Int) ≤ (k : Int)) := by omega
      have HE : Hid (c = R) := by
        rw [← HR.out, HC.out, show j = k by omega]; exact hide rfl
      go_wp2
      go_returns
      exact ⟨⟨_, rfl, by rw [← HE.out]; exact HN.out⟩, HB.out⟩

set_option maxRecDepth 20000 in
set_option maxHeartbeats 1000000 in
theorem rfib_any (n : Nat) (w : World) (hn : n ≤ 20000) :
    Calls Tryd.prog 21 #[.int .i64 n] w fun e w' => (∃ v, e = .returned (.tuple #[v, .int .i64 0]) ∧ Num w' v (fibN n)) ∧ Below w.heap.size w w' := by
  obtain ⟨R, hR⟩ : ∃ R, fibN n = R := ⟨_, rfl⟩
  rw [hR]
  have HR := hide hR
  clear hR
  have HO := rint_big 0 w (by omega)
  go_enter Tryd.func21, Tryd.ntmps21
  go_wp2_with fail
  refine HO.mono ?_
  rintro e w1 ⟨⟨v1, rfl, N1⟩, hb1⟩
  have HO2 := rint_big 1 w1 (by omega)
  have HN1 := hide N1
  have HB1 := hide hb1
  clear HO N1 hb1
  go_wp2_with fail
  refine HO2.mono ?_
  rintro e w2 ⟨⟨v2, rfl, N2⟩, hb2⟩
  have HN2 := hide N2
  have HN1' := hide (HN1.out.below hb2)
  have HB2 := hide (HB1.out.trans (hb2.mono HB1.out.size))
  clear HO2 N2 hb2 HN1 HB1
  go_wp2
  go_loopw [4, 5, 6] (fun a b i wr => ∃ (j c d : Nat), i = .int .i64 (j : Int) ∧ j ≤ n ∧ Num wr a c ∧ Num wr b d ∧ c = fibN j ∧ d = fibN (j + 1) ∧ Below w.heap.size w wr) (fun _ _ i _ => (20002 - intOf i).toNat)
  case atStart => exact ⟨0, 0, 1, rfl, Nat.zero_le _, HN1'.out, HN2.out, rfl, rfl, HB2.out⟩
  case round =>
    obtain ⟨j, c, d, rfl, hj, hn1, hn2, hc, hd, hbel⟩ := hrel
    have HA := hide hn1
    have HD := hide hn2
    have HC := hide (And.intro hc hd)
    have HB := hide hbel
    clear hn1 hn2 hc hd hbel HN1' HN2 HB2
    by_cases hin : j < n
    · have i1 : (j : Int) < (n : Int) := by omega
      have bc : blen c ≤ 20002 := by
        rw [HC.out.1]
        have := blen_of_lt (fibN_lt j).1
        omega
      have bd : blen d ≤ 20002 := by
        rw [HC.out.2]
        have := blen_of_lt (fibN_lt j).2
        omega
      have HS := radd_any _ _ c d wr HA.out HD.out (by omega) (by omega)
      clear bc bd
      go_wp2_with fail
      refine HS.mono ?_
      rintro e w3 ⟨⟨v3, rfl, N3⟩, hb3⟩
      have HN3 := hide N3
      have HD3 := hide (HD.out.below hb3)
      have HB3 := hide (HB.out.trans (hb3.mono HB.out.size))
      clear HS N3 hb3
      go_wp2
      go_round
      case rel =>
        refine ⟨j + 1, _, _, by go_num, hin, HD3.out, HN3.out, HC.out.2, ?_, HB3.out⟩
        rw [HC.out.1, HC.out.2]; rfl
      case measure => simp [intOf]; omega
    · have i1 : ¬ ((j : Int) < (n : Int)) := by omega
      have HE : Hid (c = R) := by
        rw [← HR.out, HC.out.1, show j = n by omega]; exact hide rfl
      go_wp2
      go_returns
      exact ⟨⟨_, rfl, by rw [← HE.out]; exact HA.out⟩, HB.out⟩

end Go.Proofs.YtlphlcmlkibmjaaDoor
