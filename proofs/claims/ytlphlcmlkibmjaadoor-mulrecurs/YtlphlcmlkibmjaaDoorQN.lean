/- Factorials, binomial numbers, Fibonacci's numbers: plain facts. -/
import Derived.Test.YtlphlcmlkibmjaaDoorQA
import Derived.Test.YtlphlcmlkibmjaaDoorQB
import Derived.Handy
import Derived.Test.YtlphlcmlkibmjaaDoorQF
namespace Go.Proofs.YtlphlcmlkibmjaaDoor
namespace Lm

def fibN : Nat → Nat
  | 0 => 0
  | 1 => 1
  | n + 2 => fibN n + fibN (n + 1)

theorem fibN_lt : ∀ n, fibN n < 2 ^ n ∧ fibN (n + 1) < 2 ^ (n + 1)
  | 0 => ⟨by simp [fibN], by simp [fibN]⟩
  | n + 1 => by
    obtain ⟨h1, h2⟩ := fibN_lt n
    refine ⟨h2, ?_⟩
    show fibN n + fibN (n + 1) < 2 ^ (n + 2)
    rw [Nat.pow_succ 2 (n + 1)]
    have : 2 ^ n ≤ 2 ^ (n + 1) := Nat.pow_le_pow_right (by omega) (by omega)
    omega

/-- (a + 1) (a + 2) .. (a + n). -/
def facP (a : Nat) : Nat → Nat
  | 0 => 1
  | n + 1 => facP a n * (a + n + 1)

theorem facP_add (a m : Nat) : ∀ n, facP a (m + n) = facP a m * facP (a + m) n
  | 0 => by simp [facP]
  | n + 1 => by
    show facP a (m + n) * (a + (m + n) + 1) = facP a m * (facP (a + m) n * (a + m + n + 1))
    rw [facP_add a m n, Nat.mul_assoc, Nat.add_assoc a m n]

theorem facP_lt (a : Nat) : ∀ n, a + n ≤ 20000 → facP a n < 2 ^ (15 * n + 1)
  | 0, _ => by simp [facP]
  | n + 1, h => by
    have h1 := facP_lt a n (by omega)
    show facP a n * (a + n + 1) < _
    rw [show 15 * (n + 1) + 1 = 15 * n + 1 + 15 by omega, Nat.pow_add _ (15 * n + 1)]
    exact Nat.mul_lt_mul_of_lt_of_le h1 (by omega) (by omega)

/-- Ways to take k of n. -/
def chN : Nat → Nat → Nat
  | _, 0 => 1
  | 0, _ + 1 => 0
  | n + 1, k + 1 => chN n k + chN n (k + 1)

theorem chN_zero (n : Nat) : chN n 0 = 1 := by cases n <;> rfl

theorem chN_more : ∀ n k, n < k → chN n k = 0
  | 0, 0, h => by omega
  | 0, _ + 1, _ => rfl
  | n + 1, 0, h => by omega
  | n + 1, k + 1, h => by
    show chN n k + chN n (k + 1) = 0
    rw [chN_more n k (by omega), chN_more n (k + 1) (by omega)]

theorem chN_self (n : Nat) : chN n n = 1 := by
  induction n with
  | zero => rfl
  | succ n ih =>
    show chN n n + chN n (n + 1) = 1
    rw [ih, chN_more n (n + 1) (by omega)]

theorem chN_up : ∀ m i, chN (m + 1) (i + 1) * (i + 1) = chN m i * (m + 1)
  | 0, 0 => by rfl
  | 0, i + 1 => by
    show (chN 0 (i + 1) + chN 0 (i + 2)) * (i + 2) = chN 0 (i + 1) * 1
    simp [chN]
  | m + 1, 0 => by
    have h : chN (m + 1) 1 * 1 = chN m 0 * (m + 1) := chN_up m 0
    show (chN (m + 1) 0 + chN (m + 1) 1) * 1 = chN (m + 1) 0 * (m + 2)
    rw [chN_zero] at h
    rw [chN_zero]
    omega
  | m + 1, i + 1 => by
    have h1 := chN_up m (i + 1)
    have h2 := chN_up m i
    have h3 : chN (m + 1) (i + 1) = chN m i + chN m (i + 1) := rfl
    show (chN (m + 1) (i + 1) + chN (m + 1) (i + 2)) * (i + 2) = chN (m + 1) (i + 1) * (m + 2)
    rw [show i + 1 + 1 = i + 2 from rfl] at h1
    rw [Nat.add_mul, h1]
    have h4 : chN (m + 1) (i + 1) * (i + 2) = chN (m + 1) (i + 1) * (i + 1) + chN (m + 1) (i + 1) := by rw [show i + 2 = (i + 1) + 1 from rfl, Nat.mul_add, Nat.mul_one]
    rw [h4, h2]
    have h5 : chN (m + 1) (i + 1) * (m + 2) = chN (m + 1) (i + 1) * (m + 1) + chN (m + 1) (i + 1) := by rw [show m + 2 = (m + 1) + 1 from rfl, Nat.mul_add, Nat.mul_one]
    rw [h5]
    have h6 : chN (m + 1) (i + 1) * (m + 1) = chN m i * (m + 1) + chN m (i + 1) * (m + 1) := by rw [h3, Nat.add_mul]
    omega

theorem chN_next (n k : Nat) (h : k ≤ n) : chN n (k + 1) * (k + 1) = chN n k * (n - k) := by
  have h1 := chN_up n k
  have h2 : chN (n + 1) (k + 1) = chN n k + chN n (k + 1) := rfl
  rw [h2, Nat.add_mul] at h1
  obtain ⟨d, rfl⟩ : ∃ d, n = k + d := ⟨n - k, by omega⟩
  rw [Nat.add_sub_cancel_left]
  have h3 : chN (k + d) k * (k + d + 1) = chN (k + d) k * (k + 1) + chN (k + d) k * d := by rw [← Nat.mul_add]; congr 1; omega
  omega

theorem chN_sym : ∀ a b, chN (a + b) a = chN (a + b) b
  | 0, b => by rw [chN_zero, Nat.zero_add, chN_self]
  | a + 1, 0 => by rw [chN_zero, Nat.add_zero, chN_self]
  | a + 1, b + 1 => by
    have h1 := chN_sym a (b + 1)
    have h2 := chN_sym (a + 1) b
    rw [show a + 1 + (b + 1) = (a + (b + 1)) + 1 by omega]
    show chN (a + (b + 1)) a + chN (a + (b + 1)) (a + 1) = chN (a + (b + 1)) b + chN (a + (b + 1)) (b + 1)
    rw [show a + 1 + b = a + (b + 1) by omega] at h2
    omega

theorem chN_le : ∀ n k, chN n k ≤ 2 ^ n
  | 0, 0 => by simp [chN]
  | 0, _ + 1 => by simp [chN]
  | n + 1, 0 => by rw [chN_zero]; exact Nat.one_le_two_pow
  | n + 1, k + 1 => by
    have h1 := chN_le n k
    have h2 := chN_le n (k + 1)
    show chN n k + chN n (k + 1) ≤ _
    rw [Nat.pow_succ]; omega

end Lm
end Go.Proofs.YtlphlcmlkibmjaaDoor

/- Package mul: Binomial, Fibonacci. -/
namespace Go.Proofs.YtlphlcmlkibmjaaDoor
open Go.RowKit
open Lm
attribute [local go_sem ↓] Go.wp_at_zero Go.wp_at_succ

theorem ResT.fits {w : World} {base : Nat} {e : Ending} {s t : Nat} (h : ResT w base e s t) (hs : blen s ≤ 67108864) : ∃ v, e = .returned (.tuple #[v, .int .u64 ((t : Nat) : Int), .int .i64 0]) ∧ Nv w base v s := by
  obtain ⟨v, c, rs, r, rfl, hA, h⟩ := h
  rcases h with ⟨rfl, h1, h2, rfl, h3⟩ | ⟨_, _, _, h3⟩
  · exact ⟨v, rfl, Nv.of hA h1 h2 h3⟩
  · omega

theorem from_nv (x : Nat) (w : World) (hx : x < 18446744073709551616) :
    Calls Tryd.prog 45 #[.int .u64 x] w fun e w' => (∃ v, e = .returned v ∧ Nv w' w.heap.size v x) ∧ Below w.heap.size w w' := by
  refine (from_any x w hx).mono ?_
  rintro e w' ⟨⟨v, rfl, hA⟩, hb⟩
  refine ⟨⟨v, rfl, Nv.of hA (by rw [val_tr]; simp [val]) (tr_tr _) ?_⟩, hb⟩
  have := (blen_le_iff x 64).2 hx
  omega

theorem isIndex_yes (n : Nat) (w : World) (h : n ≤ 20000) : Calls Tryd.prog 43 #[.int .i64 n] w fun e w' => e = .returned (.bool true) ∧ w' = w := by
  have i0 : (0 : Int) ≤ (n : Int) := by omega
  have i1 : (n : Int) ≤ 20000 := by omega
  have i2 : decide ((n : Int) ≤ 20000) = true := decide_eq_true i1
  go_enter Tryd.func43, Tryd.ntmps43
  go_wp2
  go_ret
  exact ⟨rfl, rfl⟩

theorem isIndex_no (n : Int) (w : World) (h : n < 0 ∨ 20000 < n) : Calls Tryd.prog 43 #[.int .i64 n] w fun e w' => e = .returned (.bool false) ∧ w' = w := by
  by_cases h0 : n < 0
  · have i0 : ¬ (0 ≤ n) := by omega
    clear h
    go_enter Tryd.func43, Tryd.ntmps43
    go_wp2
    go_ret
    exact ⟨rfl, rfl⟩
  · have i0 : 0 ≤ n := by omega
    have i1 : ¬ (n ≤ 20000) := by omega
    have i2 : decide (n ≤ 20000) = false := decide_eq_false i1
    clear h h0
    go_enter Tryd.func43, Tryd.ntmps43
    go_wp2
    go_ret
    exact ⟨rfl, rfl⟩

theorem mbin_no (n k : Int) (w : World) (h : n < 0 ∨ 20000 < n) :
    Calls Tryd.prog 17 #[.int .i64 n, .int .i64 k] w fun e w' => e = .returned (.tuple #[.slice none 0 0, .int .i64 1]) ∧ w' = w := by
  have HI := isIndex_no n w h
  clear h
  go_enter Tryd.func17, Tryd.ntmps17
  go_wp2_with fail
  refine HI.mono ?_
  rintro e wn ⟨rfl, hw⟩; subst hw
  clear HI
  go_wp2
  go_returns
  exact ⟨rfl, rfl⟩

theorem mfib_no (n : Int) (w : World) (h : n < 0 ∨ 20000 < n) :
    Calls Tryd.prog 18 #[.int .i64 n] w fun e w' => e = .returned (.tuple #[.slice none 0 0, .int .i64 1]) ∧ w' = w := by
  have HI := isIndex_no n w h
  clear h
  go_enter Tryd.func18, Tryd.ntmps18
  go_wp2_with fail
  refine HI.mono ?_
  rintro e wn ⟨rfl, hw⟩; subst hw
  clear HI
  go_wp2
  go_returns
  exact ⟨rfl, rfl⟩

theorem mbin_none (n : Nat) (k : Int) (w : World) (hn : n ≤ 20000) (h : k < 0 ∨ (n : Int) < k) :
    Calls Tryd.prog 17 #[.int .i64 n, .int .i64 k] w fun e w' => e = .returned (.tuple #[.slice none 0 0, .int .i64 0]) ∧ w' = w := by
  have HI := isIndex_yes n w hn
  by_cases h0 : k < 0
  · clear h
    go_enter Tryd.func17, Tryd.ntmps17
    go_wp2_with fail
    refine HI.mono ?_
    rintro e wn ⟨rfl, hw⟩; subst hw
    clear HI
    go_wp2
    go_returns
    exact ⟨rfl, rfl⟩
  · have h1 : (n : Int) < k := by omega
    clear h
    go_enter Tryd.func17, Tryd.ntmps17
    go_wp2_with fail
    refine HI.mono ?_
    rintro e wn ⟨rfl, hw⟩; subst hw
    clear HI
    go_wp2
    go_returns
    exact ⟨rfl, rfl⟩

theorem chN_bits {n k : Nat} (h : n ≤ 20000) : blen (chN n k) ≤ 20001 := by
  have : blen (chN n k) ≤ n + 1 := (blen_le_iff _ _).2 (Nat.lt_of_le_of_lt (chN_le _ _) (Nat.pow_lt_pow_right (by omega) (by omega)))
  omega

theorem mul_bits {a b m n : Nat} (ha : blen a ≤ m) (hb : blen b ≤ n) : blen (a * b) ≤ m + n := by
  refine (blen_le_iff _ _).2 ?_
  have h1 := (blen_le_iff a m).1 ha
  have h2 := (blen_le_iff b n).1 hb
  rw [Nat.pow_add]
  exact Nat.mul_lt_mul_of_lt_of_lt h1 h2

set_option maxRecDepth 20000 in
set_option maxHeartbeats 1000000 in
theorem mbin_any (n k : Nat) (w : World) (hn : n ≤ 20000) (hkn : k ≤ n) :
    Calls Tryd.prog 17 #[.int .i64 n, .int .i64 k] w fun e w' => (∃ v, e = .returned (.tuple #[v, .int .i64 0]) ∧ Nv w' w.heap.size v (chN n k)) ∧ Below w.heap.size w w' := by
  have HI := isIndex_yes n w hn
  obtain ⟨R, hR⟩ : ∃ R, chN n k = R := ⟨_, rfl⟩
  rw [hR]
  obtain ⟨d, hd⟩ : ∃ d, n = k + d := ⟨n - k, by omega⟩
  have hdk : (n : Int) - (k : Int) = (d : Int) := by omega
  have hd2 : d ≤ 20000 := by omega
  obtain ⟨m, hm1, hm2, hmR⟩ : ∃ m : Nat, min (k : Int) (d : Int) = (m : Int) ∧ m ≤ n ∧ chN n m = R := by
    rcases Nat.le_total k d with h | h
    · exact ⟨k, by omega, by omega, hR⟩
    · refine ⟨d, by omega, by omega, ?_⟩
      rw [← hR, hd]
      exact (chN_sym k d).symm
  have HR := hide hmR
  have i0 : ¬ ((k : Int) < 0) := by omega
  have i2 : ¬ ((n : Int) < (k : Int)) := by omega
  have HF := from_nv 1 w (by omega)
  clear hR hd hmR
  go_enter Tryd.func17, Tryd.ntmps17
  go_wp2_with fail
  refine HI.mono ?_
  rintro e wn ⟨rfl, hw⟩; rw [hw]; clear hw wn HI
  go_wp2_with fail
  refine HF.mono ?_
  rintro e w1 ⟨⟨v1, rfl, N1⟩, hb1⟩
  have HN1 := hide N1
  have HB1 := hide hb1
  clear HF N1 hb1
  go_wp2
  go_loopw [6, 27] (fun v i wr => ∃ (j c : Nat) (v' : Value), v = v' ∧ i = .int .i64 (j : Int) ∧ j ≤ m ∧ Nv wr w.heap.size v' c ∧ c = chN n j ∧ Below w.heap.size w wr) (fun _ i _ => (20002 - intOf i).toNat)
  case atStart => exact ⟨0, 1, _, rfl, rfl, Nat.zero_le _, HN1.out, (chN_zero _).symm, HB1.out⟩
  case round =>
    obtain ⟨j, c, v', rfl, rfl, hj, hnum, hc, hbel⟩ := hrel
    have HN := hide hnum
    have HC := hide hc
    have HB := hide hbel
    clear hnum hc hbel HN1 HB1
    by_cases hin : j < m
    · have i1 : (j : Int) < (m : Int) := by omega
      obtain ⟨q, hq, hqn⟩ : ∃ q : Nat, (n : Int) - (j : Int) = (q : Int) ∧ n - j = q := ⟨n - j, by omega, rfl⟩
      have hql : q ≤ 20000 := by omega
      obtain ⟨rs, A1, e1, _, l1⟩ := HN.out.arg
      have HT := times_any _ rs q wr A1 (by omega) (by omega)
      rw [e1] at HT
      have HQ := hide hqn
      clear A1 e1 l1 hqn
      go_wp2_with fail
      refine HT.mono ?_
      rintro e w2 ⟨hb2, hres⟩
      have bc : blen (c * q) ≤ 20065 := by
        refine mul_bits (m := 20001) (n := 64) (by rw [HC.out]; exact chN_bits hn) ((blen_le_iff _ _).2 (by omega))
      obtain ⟨v2, rfl, N2⟩ := hres.fits (by omega)
      have HB2 := hide (HB.out.trans (hb2.mono HB.out.size))
      obtain ⟨rs2, A2, e2, _, l2⟩ := N2.arg
      have HH := through_any v2 rs2 (j + 1) w2 A2 (by omega) (by omega) (by omega)
      have enext : c * q / (j + 1) = chN n (j + 1) := by
        rw [HC.out, ← HQ.out, ← chN_next n j (by omega)]
        exact Nat.mul_div_cancel _ (by omega)
      rw [e2, enext] at HH
      obtain ⟨p, ej, hp⟩ : ∃ p : Nat, (j : Int) + 1 = (p : Int) ∧ j + 1 = p := ⟨j + 1, by omega, rfl⟩
      have hpl : p ≤ 20001 := by omega
      rw [hp] at HH
      have HPP := hide hp
      clear HT hres bc N2 A2 e2 l2 hb2 enext hp
      go_wp2_with fail
      refine HH.mono ?_
      rintro e w3 ⟨hb3, hres⟩
      obtain ⟨v3, rfl, N3⟩ := hres.fits (by have := chN_bits (n := n) (k := p) hn; omega)
      have HB3 := hide (HB2.out.trans (hb3.mono HB2.out.size))
      have HN3 := hide (N3.base HB2.out.size)
      clear HH hres N3 hb3
      go_wp2
      go_round
      case rel => exact ⟨p, _, _, rfl, rfl, by have := HPP.out; omega, HN3.out, rfl, HB3.out⟩
      case measure => simp [intOf]; omega
    · have i1 : ¬ ((j : Int) < (m : Int)) := by omega
      have HE : Hid (c = R) := by
        rw [← HR.out, HC.out, show j = m by omega]; exact hide rfl
      go_wp2
      go_returns
      exact ⟨⟨_, rfl, by rw [← HE.out]; exact HN.out⟩, HB.out⟩

set_option maxRecDepth 20000 in
set_option maxHeartbeats 1000000 in
theorem mfib_any (n : Nat) (w : World) (hn : n ≤ 20000) :
    Calls Tryd.prog 18 #[.int .i64 n] w fun e w' => (∃ v, e = .returned (.tuple #[v, .int .i64 0]) ∧ Nv w' w.heap.size v (fibN n)) ∧ Below w.heap.size w w' := by
  have HI := isIndex_yes n w hn
  obtain ⟨R, hR⟩ : ∃ R, fibN n = R := ⟨_, rfl⟩
  rw [hR]
  have HR := hide hR
  have HO := from_nv 0 w (by omega)
  clear hR
  go_enter Tryd.func18, Tryd.ntmps18
  go_wp2_with fail
  refine HI.mono ?_
  rintro e wn ⟨rfl, hw⟩; rw [hw]; clear hw wn HI
  go_wp2_with fail
  refine HO.mono ?_
  rintro e w1 ⟨⟨v1, rfl, N1⟩, hb1⟩
  have HO2 := from_nv 1 w1 (by omega)
  have HN1 := hide N1
  have HB1 := hide hb1
  clear HO N1 hb1
  go_wp2_with fail
  refine HO2.mono ?_
  rintro e w2 ⟨⟨v2, rfl, N2⟩, hb2⟩
  have HN2 := hide (N2.base HB1.out.size)
  have HN1' := hide (HN1.out.below hb2)
  have HB2 := hide (HB1.out.trans (hb2.mono HB1.out.size))
  clear HO2 N2 hb2 HN1 HB1
  go_wp2
  go_loopw [4, 5, 14] (fun a b i wr => ∃ (j c d : Nat), i = .int .i64 (j : Int) ∧ j ≤ n ∧ Nv wr w.heap.size a c ∧ Nv wr w.heap.size b d ∧ c = fibN j ∧ d = fibN (j + 1) ∧ Below w.heap.size w wr) (fun _ _ i _ => (20002 - intOf i).toNat)
  case atStart => exact ⟨0, 0, 1, rfl, Nat.zero_le _, HN1'.out, HN2.out, rfl, rfl, HB2.out⟩
  case round =>
    obtain ⟨j, c, d, rfl, hj, hn1, hn2, hc, hd, hbel⟩ := hrel
    have HA := hide hn1
    have HD := hide hn2
    have HC := hide (And.intro hc hd)
    have HB := hide hbel
    clear hn1 hn2 hc hd hbel HN1' HN2 HB2
    by_cases hin : j < n
    · have i1 : (j : Int) < (n : Int) := by omega
      obtain ⟨rs1, A1, e1, _, l1⟩ := HA.out.arg
      obtain ⟨rs2, A2, e2, _, l2⟩ := HD.out.arg
      have HS := add_any _ _ rs1 rs2 wr A1 A2 (by omega) (by omega)
      have en : c + d = fibN (j + 2) := by rw [HC.out.1, HC.out.2]; rfl
      rw [e1, e2, en] at HS
      clear A1 A2 e1 e2 l1 l2 en
      go_wp2_with fail
      refine HS.mono ?_
      rintro e w3 ⟨hb3, hres⟩
      obtain ⟨v3, rfl, N3⟩ := hres.fits (by
        have := (blen_le_iff (fibN (j + 2)) (j + 2)).2 (fibN_lt (j + 2)).1
        omega)
      have HN3 := hide (N3.base HB.out.size)
      have HD3 := hide (HD.out.below hb3)
      have HB3 := hide (HB.out.trans (hb3.mono HB.out.size))
      clear HS N3 hb3 hres
      go_wp2
      go_round
      case rel => exact ⟨j + 1, _, _, by go_num, hin, HD3.out, HN3.out, HC.out.2, rfl, HB3.out⟩
      case measure => simp [intOf]; omega
    · have i1 : ¬ ((j : Int) < (n : Int)) := by omega
      have HE : Hid (c = R) := by
        rw [← HR.out, HC.out.1, show j = n by omega]; exact hide rfl
      go_wp2
      go_returns
      exact ⟨⟨_, rfl, by rw [← HE.out]; exact HA.out⟩, HB.out⟩

end Go.Proofs.YtlphlcmlkibmjaaDoor

/- Package mul: byHalves over the factors of a factorial; Factorial. -/
namespace Go.Proofs.YtlphlcmlkibmjaaDoor
open Go.RowKit
open Lm
attribute [local go_sem ↓] Go.wp_at_zero Go.wp_at_succ

theorem mul_nv (va vb : Value) (b1 b2 x y : Nat) (w : World) (h1 : Nv w b1 va x) (h2 : Nv w b2 vb y) (hT : Tab w) (hf : blen (x * y) ≤ 67108864) :
    Calls Tryd.prog 22 #[va, vb] w fun e w' => (∃ v, e = .returned (.tuple #[v, .int .i64 0]) ∧ Nv w' w.heap.size v (x * y)) ∧ Below w.heap.size w w' := by
  obtain ⟨r1, A1, e1, _, l1⟩ := h1.arg
  obtain ⟨r2, A2, e2, _, l2⟩ := h2.arg
  refine (mul_any va vb r1 r2 w A1 A2 hT (by omega)).mono ?_
  rintro e w' ⟨hb, hr⟩
  rw [e1, e2] at hr
  exact ⟨hr.fits hf, hb⟩

theorem fac_factor (i : Nat) (w : World) (hi : i ≤ 20000) :
    Calls Tryd.prog 44 #[.int .i64 i] w fun e w' => (∃ v, e = .returned v ∧ Nv w' w.heap.size v (i + 1)) ∧ Below w.heap.size w w' := by
  obtain ⟨p, ep, hp⟩ : ∃ p : Nat, (i : Int) + 1 = (p : Int) ∧ i + 1 = p := ⟨i + 1, by omega, rfl⟩
  rw [hp]
  have hpl : p ≤ 20001 := by omega
  have HF := from_nv p w (by omega)
  clear hp
  go_enter Tryd.func44, Tryd.ntmps44
  go_wp2_with fail
  refine HF.mono ?_
  rintro e w1 ⟨⟨v1, rfl, N1⟩, hb1⟩
  have H := hide (And.intro N1 hb1)
  clear HF N1 hb1
  go_wp2
  go_ret
  exact ⟨⟨v1, rfl, H.out.1⟩, H.out.2⟩

theorem facP_bits {a n : Nat} (h : a + n ≤ 20000) : blen (facP a n) ≤ 300001 := by
  have := (blen_le_iff _ _).2 (facP_lt a n h)
  omega

theorem cell_up {w w' : World} {g : Nat} {v : Value} (hb : Below w.heap.size w w') (h : w.cell? ⟨g, 0, none⟩ = some v) : w'.cell? ⟨g, 0, none⟩ = some v := by
  rw [hb.cell (p := ⟨g, 0, none⟩) ?_]
  · exact h
  · show g < w.heap.size
    rcases Nat.lt_or_ge g w.heap.size with h' | h'
    · exact h'
    · simp [World.cell?, Array.getElem?_eq_none h'] at h

set_option maxRecDepth 20000 in
set_option maxHeartbeats 1000000 in
theorem between_fac (gf gb : Nat) : ∀ (N d from_ to_ : Nat) (w : World), d < N → to_ = from_ + d → to_ ≤ 20000 → Tab w → w.cell? ⟨gf, 0, none⟩ = some (.func (.func 44) #[] #[]) → w.cell? ⟨gb, 0, none⟩ = some (.func (.func 68) #[] #[.pointer (some ⟨gf, 0, none⟩), .pointer (some ⟨gb, 0, none⟩)]) →
    Calls Tryd.prog 68 #[.int .i64 from_, .int .i64 to_, .pointer (some ⟨gf, 0, none⟩), .pointer (some ⟨gb, 0, none⟩)] w fun e w' => (∃ v, e = .returned (.tuple #[v, .int .i64 0]) ∧ Nv w' w.heap.size v (facP from_ d)) ∧ Below w.heap.size w w'
  | 0, d, from_, to_, w, h, _, _, _, _, _ => absurd h (Nat.not_lt_zero d)
  | N + 1, d, from_, to_, w, hd, hto, hfd, hT, hcf, hcb => by
    have ed : (to_ : Int) - (from_ : Int) = (d : Int) := by omega
    have HT := hide hT
    have hfl : from_ ≤ 20000 := by omega
    clear hT
    by_cases h0 : d = 0
    · subst h0
      have HF := from_nv 1 w (by omega)
      clear hcf hcb HT hto
      go_enter Tryd.func68, Tryd.ntmps68
      go_wp2_with fail
      refine HF.mono ?_
      rintro e w1 ⟨⟨v1, rfl, N1⟩, hb1⟩
      have H := hide (And.intro N1 hb1)
      clear HF N1 hb1
      go_wp2
      go_returns
      exact ⟨⟨v1, rfl, H.out.1⟩, H.out.2⟩
    · by_cases h1 : d = 1
      · subst h1
        have HF := fac_factor from_ w (by omega)
        clear hcb hto
        go_enter Tryd.func68, Tryd.ntmps68
        go_wp2_with fail
        refine HF.mono ?_
        rintro e w1 ⟨⟨v1, rfl, N1⟩, hb1⟩
        have HG := from_nv 1 w1 (by omega)
        have HN1 := hide N1
        have HB1 := hide hb1
        clear HF N1 hb1 hcf
        go_wp2_with fail
        refine HG.mono ?_
        rintro e w2 ⟨⟨v2, rfl, N2⟩, hb2⟩
        have bl : blen ((from_ + 1) * 1) ≤ 67108864 := by
          have := (blen_le_iff ((from_ + 1) * 1) 64).2 (by omega)
          omega
        have HB2 := hide (HB1.out.trans (hb2.mono HB1.out.size))
        have HM := mul_nv v1 v2 _ _ _ _ w2 (HN1.out.below hb2) N2 (HT.out.below HB2.out) bl
        clear HG N2 hb2 bl
        go_wp2_with fail
        refine HM.mono ?_
        rintro e w3 ⟨⟨v3, rfl, N3⟩, hb3⟩
        have H := hide (And.intro (N3.base HB2.out.size) (HB2.out.trans (hb3.mono HB2.out.size)))
        clear HM N3 hb3
        go_wp2
        go_returns
        refine ⟨⟨v3, rfl, ?_⟩, H.out.2⟩
        have h := H.out.1
        rw [show facP from_ 1 = (from_ + 1) * 1 by simp [facP]]
        exact h
      · obtain ⟨p, q, hp, hpq, hp0, hq0⟩ : ∃ p q : Nat, (d : Int) / 2 = (p : Int) ∧ d = p + q ∧ p < N ∧ q < N := ⟨d / 2, d - d / 2, by omega, by omega, by omega, by omega⟩
        have n0 : ((d : Int) == 0) = false := by rw [beq_eq_false_iff_ne]; omega
        have n1 : ((d : Int) == 1) = false := by rw [beq_eq_false_iff_ne]; omega
        obtain ⟨mid, em, hmid⟩ : ∃ mid : Nat, (from_ : Int) + (p : Int) = (mid : Int) ∧ mid = from_ + p := ⟨from_ + p, by omega, rfl⟩
        have H1 := between_fac gf gb N p from_ mid w hp0 hmid (by omega) HT.out hcf hcb
        have HI := hide (fun (w1 : World) (hT : Tab w1) (c1 : w1.cell? ⟨gf, 0, none⟩ = some (.func (.func 44) #[] #[])) (c2 : w1.cell? ⟨gb, 0, none⟩ = some (.func (.func 68) #[] #[.pointer (some ⟨gf, 0, none⟩), .pointer (some ⟨gb, 0, none⟩)])) => between_fac gf gb N q mid to_ w1 hq0 (by omega) hfd hT c1 c2)
        have HV : Hid (facP from_ p * facP mid q = facP from_ d) := by rw [hpq, hmid, facP_add]; exact hide rfl
        have HBL : Hid (blen (facP from_ d) ≤ 67108864) := hide (by have := facP_bits (a := from_) (n := d) (by omega); omega)
        have hml : mid ≤ 20000 := by omega
        clear hpq hmid h0 h1 hto
        go_enter Tryd.func68, Tryd.ntmps68
        go_wp2_with fail
        refine H1.mono ?_
        rintro e w1 ⟨⟨v1, rfl, N1⟩, hb1⟩
        have hcb1 := cell_up hb1 hcb
        have H2 := HI.out w1 (HT.out.below hb1) (cell_up hb1 hcf) hcb1
        have HN1 := hide N1
        have HB1 := hide hb1
        clear H1 N1 hb1 hcf hcb HI
        go_wp2_with fail
        refine H2.mono ?_
        rintro e w2 ⟨⟨v2, rfl, N2⟩, hb2⟩
        have HB2 := hide (HB1.out.trans (hb2.mono HB1.out.size))
        have HM := mul_nv v1 v2 _ _ _ _ w2 (HN1.out.below hb2) N2 (HT.out.below HB2.out) (by rw [HV.out]; exact HBL.out)
        rw [HV.out] at HM
        clear H2 N2 hb2 hcb1
        go_wp2_with fail
        refine HM.mono ?_
        rintro e w3 ⟨⟨v3, rfl, N3⟩, hb3⟩
        have H := hide (And.intro (N3.base HB2.out.size) (HB2.out.trans (hb3.mono HB2.out.size)))
        clear HM N3 hb3
        go_wp2
        go_returns
        exact ⟨⟨v3, rfl, H.out.1⟩, H.out.2⟩

end Go.Proofs.YtlphlcmlkibmjaaDoor

/- Package mul: byHalves, Factorial. -/
namespace Go.Proofs.YtlphlcmlkibmjaaDoor
open Go.RowKit
open Lm
attribute [local go_sem ↓] Go.wp_at_zero Go.wp_at_succ

theorem mfac_no (n : Int) (w : World) (h : n < 0 ∨ 20000 < n) :
    Calls Tryd.prog 16 #[.int .i64 n] w fun e w' => e = .returned (.tuple #[.slice none 0 0, .int .i64 1]) ∧ w' = w := by
  have HI := isIndex_no n w h
  clear h
  go_enter Tryd.func16, Tryd.ntmps16
  go_wp2_with fail
  refine HI.mono ?_
  rintro e wn ⟨rfl, hw⟩; subst hw
  clear HI
  go_wp2
  go_returns
  exact ⟨rfl, rfl⟩

theorem run_store_func {P : Program} (w : World) (a : Addr) (m : Mode) (f : Fn) (x y : Array Value) : (store a (.func f x y) m).run P w = stored P w a (.func f x y) m := run_store P w a _ m rfl

attribute [local go_sem] run_store_func

theorem box1 {w : World} {h : Nat} {a : Value} {t : TypeId} (e : w.heap[h]? = some (.cells #[a] t)) : w.cell? ⟨h, 0, none⟩ = some a ∧ w.frozen? ⟨h, 0, none⟩ = false :=
  ⟨by simp [World.cell?, e], by simp [World.frozen?, e]⟩

theorem byHalves_fac (n : Nat) (w : World) (hT : Tab w) (hn : n ≤ 20000) :
    Calls Tryd.prog 41 #[.int .i64 n, .func (.func 44) #[] #[]] w fun e w' => (∃ v, e = .returned (.tuple #[v, .int .i64 0]) ∧ Nv w' w.heap.size v (facP 0 n)) ∧ Below w.heap.size w w' := by
  obtain ⟨w0, hw0⟩ : ∃ w0, w0 = w.alloc (.cells #[.func (.func 44) #[] #[]] 66) := ⟨_, rfl⟩
  obtain ⟨w2, hw2⟩ : ∃ w2, w2 = w0.alloc (.cells #[.func (.func 68) #[] #[.pointer (some ⟨w.heap.size, 0, none⟩), .pointer (some ⟨w.heap.size + 1, 0, none⟩)]] 42) := ⟨_, rfl⟩
  have hs0 : w0.heap.size = w.heap.size + 1 := by rw [hw0]; exact World.size_alloc _ _
  have hb0 : Below w.heap.size w w0 := by rw [hw0]; exact (Below.refl _ _).alloc (Nat.le_refl _) _
  have hb2 : Below w.heap.size w w2 := by rw [hw2]; exact hb0.alloc hb0.size _
  have h0 : w0.heap[w.heap.size]? = some (.cells #[.func (.func 44) #[] #[]] 66) := by rw [hw0]; exact heap_alloc_new ..
  have k1 : w2.heap[w.heap.size + 1]? = some (.cells #[.func (.func 68) #[] #[.pointer (some ⟨w.heap.size, 0, none⟩), .pointer (some ⟨w.heap.size + 1, 0, none⟩)]] 42) := by
    rw [hw2]
    have h := heap_alloc_new w0 (.cells #[.func (.func 68) #[] #[.pointer (some ⟨w.heap.size, 0, none⟩), .pointer (some ⟨w.heap.size + 1, 0, none⟩)]] 42)
    rw [hs0] at h
    exact h
  have k0 : w2.heap[w.heap.size]? = some (.cells #[.func (.func 44) #[] #[]] 66) := by
    have hb : Below w0.heap.size w0 w2 := by rw [hw2]; exact (Below.refl _ _).alloc (Nat.le_refl _) _
    rw [hb.block w.heap.size (by omega)]; exact h0
  have HM := between_fac w.heap.size (w.heap.size + 1) (n + 1) n 0 n w2 (by omega) (by omega) hn (hT.below hb2) (box1 k0).1 (box1 k1).1
  have kc := (box1 k1).1
  have HB2 := hide hb2
  have HW := hide (show ((w.alloc (.cells #[.func (.func 44) #[] #[]] 66)).alloc (.cells #[.func (.func 68) #[] #[.pointer (some ⟨w.heap.size, 0, none⟩), .pointer (some ⟨w.heap.size + 1, 0, none⟩)]] 42)) = w2 by rw [hw2, hw0])
  rw [hw2, hw0] at kc
  clear hw0 hs0 hb0 h0 hw2 k0 k1 hb2
  go_enter Tryd.func41, Tryd.ntmps41
  go_wp2_with fail
  rw [HW.out]
  refine HM.mono ?_
  rintro e w3 ⟨⟨v3, rfl, N3⟩, hb3⟩
  have H := hide (And.intro (N3.base HB2.out.size) (HB2.out.trans (hb3.mono HB2.out.size)))
  clear HM N3 hb3
  go_wp2
  go_returns
  exact ⟨⟨v3, rfl, H.out.1⟩, H.out.2⟩

theorem mfac_any (n : Nat) (w : World) (hT : Tab w) (hn : n ≤ 20000) :
    Calls Tryd.prog 16 #[.int .i64 n] w fun e w' => (∃ v, e = .returned (.tuple #[v, .int .i64 0]) ∧ Nv w' w.heap.size v (facP 0 n)) ∧ Below w.heap.size w w' := by
  have HI := isIndex_yes n w hn
  have HM := byHalves_fac n w hT hn
  clear hT
  go_enter Tryd.func16, Tryd.ntmps16
  go_wp2_with fail
  refine HI.mono ?_
  rintro e wn ⟨rfl, hw⟩; rw [hw]; clear hw wn HI
  go_wp2_with fail
  refine HM.mono ?_
  rintro e w3 ⟨⟨v3, rfl, N3⟩, hb3⟩
  have H := hide (And.intro N3 hb3)
  clear HM N3 hb3
  go_wp2
  go_returns
  exact ⟨⟨v3, rfl, H.out.1⟩, H.out.2⟩

end Go.Proofs.YtlphlcmlkibmjaaDoor
