/- The walk of the law MulRecurs. -/
import Derived.Test.YtlphlcmlkibmjaaDoorQP
namespace Go.Proofs.YtlphlcmlkibmjaaDoor
open Go.RowKit
open Lm
attribute [local go_sem ↓] Go.wp_at_zero Go.wp_at_succ

theorem blen_chN {n k : Nat} (h : n ≤ 300) : blen (chN n k) ≤ 301 := by
  have := (blen_le_iff _ _).2 (Nat.lt_of_le_of_lt (chN_le n k) (Nat.pow_lt_pow_right (a := 2) (m := n) (n := n + 1) (by omega) (by omega)))
  omega

set_option maxRecDepth 100000 in
theorem mulRecurs_none (n k : Int) (w : World) (hT : Tab w) (h : n < 1 ∨ 300 < n) :
    Calls Tryd.prog 5 #[.int .i64 n, .int .i64 k] w fun e w' => e = .returned (.bool true) ∧ Below w.heap.size w w' := by
  have H : Hid (Below w.heap.size w w) := Below.refl _ _
  have HT := hide hT
  clear hT
  by_cases h0 : n < 1
  · clear h
    go_enter Tryd.func5, Tryd.ntmps5
    have HA := awake_any _ (HT.out.below H.out)
    go_wp2_with fail
    refine HA.mono ?_
    rintro e w99 ⟨rfl, hb⟩
    replace H := hid_below H hb; clear hb HA
    go_wp2
    go_ret
    exact ⟨rfl, H.out⟩
  · have h1 : 300 < n := by omega
    clear h
    go_enter Tryd.func5, Tryd.ntmps5
    have HA := awake_any _ (HT.out.below H.out)
    go_wp2_with fail
    refine HA.mono ?_
    rintro e w99 ⟨rfl, hb⟩
    replace H := hid_below H hb; clear hb HA
    go_wp2
    go_ret
    exact ⟨rfl, H.out⟩

set_option maxRecDepth 100000 in
set_option maxHeartbeats 4000000 in
theorem mulRecurs_main (n m : Nat) (k : Int) (w : World) (hT : Tab w) (hn : n = m + 1) (hn3 : n ≤ 300) (_ : -9223372036854775808 ≤ k) (_ : k ≤ 9223372036854775807) :
    Calls Tryd.prog 5 #[.int .i64 n, .int .i64 k] w fun e w' => e = .returned (.bool true) ∧ Below w.heap.size w w' := by
  have H : Hid (Below w.heap.size w w) := Below.refl _ _
  have HT := hide hT
  have em : (n : Int) - 1 = (m : Int) := by omega
  have hm3 : m ≤ 300 := by omega
  have hn1 : ¬ ((n : Int) < 1) := by omega
  have hn2 : decide ((300 : Int) < (n : Int)) = false := decide_eq_false (by omega)
  have HN := hide hn
  obtain ⟨q, hq, eq⟩ : ∃ q : Nat, q < 100 ∧ (wrap64 (k.tmod 100 + 100)).tmod 100 = (q : Int) := by
    have h1 : -100 < k.tmod 100 ∧ k.tmod 100 < 100 := by
      by_cases h : 0 ≤ k
      · rw [Int.tmod_eq_emod_of_nonneg h]; omega
      · obtain ⟨u, hu⟩ : ∃ u, k = -u := ⟨-k, by omega⟩
        rw [hu, Int.neg_tmod, Int.tmod_eq_emod_of_nonneg (by omega)]; omega
    generalize k.tmod 100 = r at *
    have h2 : wrap64 (r + 100) = r + 100 := by unfold wrap64; omega
    rw [h2]
    refine ⟨((r + 100).tmod 100).toNat, ?_, ?_⟩ <;> rw [Int.tmod_eq_emod_of_nonneg (by omega)] <;> omega
  have F1 := fac_rv n w hT (by omega)
  clear hT hn
  go_enter Tryd.func5, Tryd.ntmps5
  go_wp2_with fail
  refine F1.mono ?_
  rintro e w1 ⟨⟨vf, rfl, Rf⟩, hb⟩
  replace H := hid_below H hb
  clear hb F1
  have F2 := fac_rv m w1 (HT.out.below H.out) (by omega)
  go_wp2_with fail
  refine F2.mono ?_
  rintro e w2 ⟨⟨vg, rfl, Rg⟩, hb⟩
  replace H := hid_below H hb
  replace Rf := Rf.below hb
  clear hb F2
  have hb : Below w2.heap.size w2 (w2.alloc (.cells #[.int .u64 (n : Int)] 47)) := (Below.refl _ _).alloc (Nat.le_refl _) _
  replace H := hid_below H hb
  replace Rf := Rf.below hb
  have hpf : facP 0 m * n = facP 0 n := by
    rw [HN.out]
    show facP 0 m * (m + 1) = facP 0 m * (0 + m + 1)
    rw [Nat.zero_add]
  have F3 := mul_rv vg _ (facP 0 m) n _ (Rg.below hb) (Rv.one w2 n (by omega)) (HT.out.below H.out) (by rw [hpf]; have := facP_bits (a := 0) (n := n) (by omega); omega)
  rw [hpf] at F3
  clear hb hpf Rg
  go_wp2_with fail
  refine F3.mono ?_
  rintro e w3 ⟨⟨vp, rfl, Rp⟩, hb⟩
  replace H := hid_below H hb
  replace Rf := Rf.below hb
  clear hb F3
  have G1 := all_lits w3 [0, 0, 0] _ 3 rfl rfl (by simp)
  rw [show all0 [0, 0, 0] = true from rfl] at G1
  go_wp2_with fail
  refine G1.mono ?_
  rintro e w4 ⟨rfl, hb⟩
  replace H := hid_below H hb
  replace Rf := Rf.below hb
  replace Rp := Rp.below hb
  clear hb G1
  have G2 := same_rv vf vp _ _ w4 Rf Rp
  rw [decide_eq_true rfl] at G2
  go_wp2_with fail
  refine G2.mono ?_
  rintro e w5 ⟨rfl, hb⟩
  replace H := hid_below H hb
  clear hb G2 Rf Rp
  have hb : Below w5.heap.size w5 (w5.alloc (.cells #[] 47)) := (Below.refl _ _).alloc (Nat.le_refl _) _
  replace H := hid_below H hb
  clear hb
  go_wp2
  go_loopw [11, 12] (fun row i wr => ∃ j : Nat, i = .int .i64 (j : Int) ∧ j ≤ n + 1 ∧ Rv wr row (rowS n j) ∧ Below w.heap.size w wr) (fun _ i _ => (302 - intOf i).toNat)
  case atStart => exact ⟨0, rfl, by omega, Rv.empty _ _, H.out⟩
  case round =>
    obtain ⟨j, rfl, hj, hrow, hbel⟩ := hrel
    replace H := hide hbel
    clear hbel
    by_cases hjn : j ≤ n
    · have i1 : (j : Int) ≤ (n : Int) := by omega
      have F1 := bin_rv n j wr (by omega)
      go_wp2_with fail
      refine F1.mono ?_
      rintro e w6 ⟨⟨vc, rfl, Rc⟩, hb⟩
      replace H := hid_below H hb
      replace hrow := hrow.below hb
      clear hb F1
      have F2 := bin_rv m j w6 (by omega)
      go_wp2_with fail
      refine F2.mono ?_
      rintro e w7 ⟨⟨vd, rfl, Rd⟩, hb⟩
      replace H := hid_below H hb
      replace hrow := hrow.below hb
      replace Rc := Rc.below hb
      clear hb F2
      have G1 := all_lits w7 [0, 0] _ 2 rfl rfl (by simp)
      rw [show all0 [0, 0] = true from rfl] at G1
      go_wp2_with fail
      refine G1.mono ?_
      rintro e w8 ⟨rfl, hb⟩
      replace H := hid_below H hb
      replace hrow := hrow.below hb
      replace Rc := Rc.below hb
      replace Rd := Rd.below hb
      clear hb G1
      have hb : Below w8.heap.size w8 (w8.alloc (.cells #[] 47)) := (Below.refl _ _).alloc (Nat.le_refl _) _
      replace H := hid_below H hb
      replace hrow := hrow.below hb
      replace Rc := Rc.below hb
      replace Rd := Rd.below hb
      have bcn := blen_chN (n := n) (k := j) hn3
      have hrs : blen (rowS n j + chN n j) ≤ 302 := by
        have h1 : rowS n j + chN n j ≤ 2 ^ n := by
          have h2 := rowS_le n (j + 1) (n - j)
          rw [show j + 1 + (n - j) = n + 1 by omega, rowS_all] at h2
          exact h2
        have := (blen_le_iff _ _).2 (Nat.lt_of_le_of_lt h1 (Nat.pow_lt_pow_right (a := 2) (m := n) (n := n + 1) (by omega) (by omega)))
        omega
      by_cases hj0 : j = 0
      · subst hj0
        clear hb
        have F3 := sum_rv _ vd 0 (chN m 0) _ (Rv.empty _ (some ⟨w8.heap.size, 0, none⟩)) Rd (by rw [Nat.zero_add]; have := blen_chN (n := m) (k := 0) (by omega); omega)
        have hz : 0 + chN m 0 = chN n 0 := by rw [chN_zero, chN_zero]
        rw [hz] at F3
        clear hz Rd
        go_wp2_with fail
        refine F3.mono ?_
        rintro e w9 ⟨⟨vs, rfl, Rs⟩, hb⟩
        replace H := hid_below H hb
        replace hrow := hrow.below hb
        replace Rc := Rc.below hb
        clear hb F3
        have F4 := same_rv vc vs _ _ w9 Rc Rs
        rw [decide_eq_true rfl] at F4
        go_wp2_with fail
        refine F4.mono ?_
        rintro e w10 ⟨rfl, hb⟩
        replace H := hid_below H hb
        replace hrow := hrow.below hb
        replace Rc := Rc.below hb
        clear hb F4 Rs
        have F5 := sum_rv _ vc _ _ w10 hrow Rc (by omega)
        go_wp2_with fail
        refine F5.mono ?_
        rintro e w11 ⟨⟨vr, rfl, Rr⟩, hb⟩
        replace H := hid_below H hb
        have HR := hide Rr
        clear hb F5 Rr hrow Rc
        go_wp2
        go_roundw
        case rel => exact ⟨1, rfl, by omega, HR.out, H.out⟩
        case measure => simp [intOf]
      · obtain ⟨i, rfl⟩ : ∃ i, j = i + 1 := ⟨j - 1, by omega⟩
        have ei : (((i + 1 : Nat) : Int)) - 1 = (i : Int) := by omega
        have hjp : (0 : Int) < ((i + 1 : Nat) : Int) := by omega
        obtain ⟨jj, hjj⟩ : ∃ jj : Nat, i + 1 = jj := ⟨_, rfl⟩
        rw [hjj] at ei hjp
        have F3 := bin_rv m i (w8.alloc (.cells #[] 47)) (by omega)
        have hz : chN m i + chN m jj = chN n jj := by rw [← hjj, HN.out]; rfl
        have HJ := hide hjj
        rw [hjj] at hrow Rc Rd hrs bcn hj hjn i1 ⊢
        clear hjj hj0 hb
        go_wp2_with fail
        refine F3.mono ?_
        rintro e w9 ⟨⟨vb, rfl, Rb⟩, hb⟩
        replace H := hid_below H hb
        replace hrow := hrow.below hb
        replace Rc := Rc.below hb
        replace Rd := Rd.below hb
        clear hb F3
        have G1 := all_lits w9 [0] _ 1 rfl rfl (by simp)
        rw [show all0 [0] = true from rfl] at G1
        go_wp2_with fail
        refine G1.mono ?_
        rintro e w10 ⟨rfl, hb⟩
        replace H := hid_below H hb
        replace hrow := hrow.below hb
        replace Rc := Rc.below hb
        replace Rd := Rd.below hb
        replace Rb := Rb.below hb
        clear hb G1
        have F3 := sum_rv vb vd _ _ w10 Rb Rd (by rw [hz]; omega)
        rw [hz] at F3
        clear hz Rb Rd
        go_wp2_with fail
        refine F3.mono ?_
        rintro e w9 ⟨⟨vs, rfl, Rs⟩, hb⟩
        replace H := hid_below H hb
        replace hrow := hrow.below hb
        replace Rc := Rc.below hb
        clear hb F3
        have F4 := same_rv vc vs _ _ w9 Rc Rs
        rw [decide_eq_true rfl] at F4
        go_wp2_with fail
        refine F4.mono ?_
        rintro e w10 ⟨rfl, hb⟩
        replace H := hid_below H hb
        replace hrow := hrow.below hb
        replace Rc := Rc.below hb
        clear hb F4 Rs
        have F5 := sum_rv _ vc _ _ w10 hrow Rc (by omega)
        go_wp2_with fail
        refine F5.mono ?_
        rintro e w11 ⟨⟨vr, rfl, Rr⟩, hb⟩
        replace H := hid_below H hb
        have HR := hide Rr
        clear hb F5 Rr hrow Rc
        go_wp2
        go_roundw
        case rel => exact ⟨jj + 1, by go_num, by omega, HR.out, H.out⟩
        case measure => simp [intOf]; omega
    · have i1 : ¬ ((j : Int) ≤ (n : Int)) := by omega
      have ej : j = n + 1 := by omega
      rw [ej, rowS_all] at hrow
      clear ej
      have hb : Below wr.heap.size wr (wr.alloc (.cells #[.int .u64 2] 47)) := (Below.refl _ _).alloc (Nat.le_refl _) _
      replace H := hid_below H hb
      replace hrow := hrow.below hb
      have b2 : blen (2 ^ n) ≤ 301 := by
        have := (blen_le_iff (2 ^ n) (n + 1)).2 (Nat.pow_lt_pow_right (by omega) (by omega))
        omega
      have F1 := pow_rv _ 2 n _ (Rv.one wr 2 (by omega)) (HT.out.below H.out) (by omega) (by omega)
      clear hb
      go_wp2_with fail
      refine F1.mono ?_
      rintro e w6 ⟨⟨vt, rfl, Rt⟩, hb⟩
      replace H := hid_below H hb
      replace hrow := hrow.below hb
      clear hb F1
      have G1 := all_lits w6 [0] _ 1 rfl rfl (by simp)
      rw [show all0 [0] = true from rfl] at G1
      go_wp2_with fail
      refine G1.mono ?_
      rintro e w7 ⟨rfl, hb⟩
      replace H := hid_below H hb
      replace hrow := hrow.below hb
      replace Rt := Rt.below hb
      clear hb G1
      have F2 := same_rv _ vt _ _ w7 hrow Rt
      rw [decide_eq_true rfl] at F2
      clear b2
      go_wp2_with fail
      refine F2.mono ?_
      rintro e w8 ⟨rfl, hb⟩
      replace H := hid_below H hb
      clear hb F2 hrow Rt
      obtain ⟨s1, es1, hs1⟩ : ∃ s1 : Nat, (n : Int) + (q : Int) = (s1 : Int) ∧ n + q = s1 := ⟨n + q, by omega, rfl⟩
      obtain ⟨s2, es2, hs2⟩ : ∃ s2 : Nat, (s1 : Int) + 1 = (s2 : Int) ∧ s1 + 1 = s2 := ⟨s1 + 1, by omega, rfl⟩
      obtain ⟨n1, en1, hn1'⟩ : ∃ n1 : Nat, (n : Int) + 1 = (n1 : Int) ∧ n + 1 = n1 := ⟨n + 1, by omega, rfl⟩
      obtain ⟨q1, eq1, hq1⟩ : ∃ q1 : Nat, (q : Int) + 1 = (q1 : Int) ∧ q + 1 = q1 := ⟨q + 1, by omega, rfl⟩
      have l1 : s1 ≤ 400 := by omega
      have l2 : s2 ≤ 401 := by omega
      have l3 : n1 ≤ 301 := by omega
      have l4 : q1 ≤ 100 := by omega
      have HEQ : Hid (fibN n * fibN q + fibN n1 * fibN q1 = fibN s2) := by
        rw [← hs2, ← hs1, ← hn1', ← hq1]; exact hide (fib_add n q).1.symm
      have bf : ∀ i, i ≤ 401 → blen (fibN i) ≤ 401 := fun i hi => by
        have := (blen_le_iff (fibN i) i).2 (fibN_lt i).1
        omega
      have HBF := hide bf
      clear hs1 hs2 hn1' hq1 bf
      have F1 := fib_rv s2 w8 (by omega)
      go_wp2_with fail
      refine F1.mono ?_
      rintro e w9 ⟨⟨vx, rfl, Rx⟩, hb⟩
      replace H := hid_below H hb
      clear hb F1
      have F1 := fib_rv n w9 (by omega)
      go_wp2_with fail
      refine F1.mono ?_
      rintro e w10 ⟨⟨va, rfl, Ra⟩, hb⟩
      replace H := hid_below H hb
      replace Rx := Rx.below hb
      clear hb F1
      have F1 := fib_rv n1 w10 (by omega)
      go_wp2_with fail
      refine F1.mono ?_
      rintro e w11 ⟨⟨vb, rfl, Rb⟩, hb⟩
      replace H := hid_below H hb
      replace Rx := Rx.below hb
      replace Ra := Ra.below hb
      clear hb F1
      have F1 := fib_rv q w11 (by omega)
      go_wp2_with fail
      refine F1.mono ?_
      rintro e w12 ⟨⟨vc, rfl, Rc⟩, hb⟩
      replace H := hid_below H hb
      replace Rx := Rx.below hb
      replace Ra := Ra.below hb
      replace Rb := Rb.below hb
      clear hb F1
      have F1 := fib_rv q1 w12 (by omega)
      go_wp2_with fail
      refine F1.mono ?_
      rintro e w13 ⟨⟨vd, rfl, Rd⟩, hb⟩
      replace H := hid_below H hb
      replace Rx := Rx.below hb
      replace Ra := Ra.below hb
      replace Rb := Rb.below hb
      replace Rc := Rc.below hb
      clear hb F1
      have G1 := all_lits w13 [0, 0, 0, 0, 0] _ 5 rfl rfl (by simp)
      rw [show all0 [0, 0, 0, 0, 0] = true from rfl] at G1
      go_wp2_with fail
      refine G1.mono ?_
      rintro e w14 ⟨rfl, hb⟩
      replace H := hid_below H hb
      replace Rx := Rx.below hb
      replace Ra := Ra.below hb
      replace Rb := Rb.below hb
      replace Rc := Rc.below hb
      replace Rd := Rd.below hb
      clear hb G1
      have bsum : blen (fibN s2) ≤ 401 := HBF.out s2 (by omega)
      have ble : ∀ {a b}, a ≤ b → blen a ≤ blen b := fun {a b} h => (blen_le_iff a _).2 (Nat.lt_of_le_of_lt h ((blen_le_iff b _).1 (Nat.le_refl _)))
      have F1 := mul_rv va vc _ _ w14 Ra Rc (HT.out.below H.out) (by have := ble (show fibN n * fibN q ≤ fibN s2 by rw [← HEQ.out]; exact Nat.le_add_right _ _); omega)
      go_wp2_with fail
      refine F1.mono ?_
      rintro e w15 ⟨⟨vy, rfl, Ry⟩, hb⟩
      replace H := hid_below H hb
      replace Rx := Rx.below hb
      replace Rb := Rb.below hb
      replace Rd := Rd.below hb
      clear hb F1 Ra Rc
      have F1 := mul_rv vb vd _ _ w15 Rb Rd (HT.out.below H.out) (by have := ble (show fibN n1 * fibN q1 ≤ fibN s2 by rw [← HEQ.out]; exact Nat.le_add_left _ _); omega)
      go_wp2_with fail
      refine F1.mono ?_
      rintro e w16 ⟨⟨vz, rfl, Rz⟩, hb⟩
      replace H := hid_below H hb
      replace Rx := Rx.below hb
      replace Ry := Ry.below hb
      clear hb F1 Rb Rd
      have G1 := all_lits w16 [0, 0] _ 2 rfl rfl (by simp)
      rw [show all0 [0, 0] = true from rfl] at G1
      go_wp2_with fail
      refine G1.mono ?_
      rintro e w17 ⟨rfl, hb⟩
      replace H := hid_below H hb
      replace Rx := Rx.below hb
      replace Ry := Ry.below hb
      replace Rz := Rz.below hb
      clear hb G1
      have F1 := sum_rv vy vz _ _ w17 Ry Rz (by rw [HEQ.out]; omega)
      rw [HEQ.out] at F1
      go_wp2_with fail
      refine F1.mono ?_
      rintro e w18 ⟨⟨vs, rfl, Rs⟩, hb⟩
      replace H := hid_below H hb
      replace Rx := Rx.below hb
      clear hb F1 Ry Rz
      have F1 := same_rv vx vs _ _ w18 Rx Rs
      rw [decide_eq_true rfl] at F1
      go_wp2_with fail
      refine F1.mono ?_
      rintro e w19 ⟨rfl, hb⟩
      replace H := hid_below H hb
      clear hb F1 Rx Rs ble bsum
      have HA := awake_any _ (HT.out.below H.out)
      go_wp2_with fail
      refine HA.mono ?_
      rintro e w99 ⟨rfl, hb⟩
      replace H := hid_below H hb; clear hb HA
      go_wp2
      go_ret
      exact ⟨rfl, H.out⟩

set_option maxHeartbeats 400000 in
theorem mulRecurs_walk (n k : Int) (w : World) (hT : Tab w) (_ : -9223372036854775808 ≤ n) (_ : n ≤ 9223372036854775807) (h1 : -9223372036854775808 ≤ k) (h2 : k ≤ 9223372036854775807) :
    Calls Tryd.prog 5 #[.int .i64 n, .int .i64 k] w fun e w' => e = .returned (.bool true) ∧ Below w.heap.size w w' := by
  by_cases h : n < 1 ∨ 300 < n
  · exact mulRecurs_none n k w hT h
  · obtain ⟨m, rfl⟩ : ∃ m : Nat, n = ((m + 1 : Nat) : Int) := ⟨n.toNat - 1, by omega⟩
    exact mulRecurs_main (m + 1) m k w hT rfl (by omega) h1 h2

end Go.Proofs.YtlphlcmlkibmjaaDoor
