/- Package roots: Sqrt of one limb; the example of the laws. -/
import Derived.Test.YtppblbhkghjphaaGreatDoorRootAZ
namespace Go.Proofs.YtppblbhkghjphaaGreatDoor
open Go.RowKit
open Lm
attribute [local go_sem ↓] Go.wp_at_zero Go.wp_at_succ

theorem rootLength_two (vb : Value) (X : List Nat) (w : World) (hA : Arg w vb X) :
    Calls Tryz.prog 60 #[vb, .int .i64 2] w fun e w' => e = .returned (.int .i64 (((blen (val X) + 1) / 2 : Nat) : Int)) ∧ w' = w := by
  have HL := length_val _ _ w hA
  have hb : blen (val X) ≤ 64 * X.length := (blen_le_iff _ _).2 (by have := val_lt hA.limbs; rw [show (18446744073709551616 : Nat) = 2 ^ 64 from rfl, ← Nat.pow_mul] at this; exact this)
  have hf := hA.few
  obtain ⟨a1, k1, rfl, _, _, _⟩ := hA.form
  generalize blen (val X) = L at *
  clear hA
  obtain ⟨q, eq, hq⟩ : ∃ q : Nat, (L : Int) / 2 = (q : Int) ∧ L / 2 = q := ⟨L / 2, by omega, rfl⟩
  rcases Nat.mod_two_eq_zero_or_one L with h0 | h1
  · have e2 : (L : Int) % 2 = 0 := by omega
    have er : (L + 1) / 2 = q := by omega
    rw [er]
    clear er h0 hq
    go_enter Tryz.func60, Tryz.ntmps60
    go_wp2_with fail
    refine HL.mono ?_
    rintro e wn ⟨rfl, hw⟩; subst hw
    clear HL
    go_wp2
    go_ret
    exact ⟨rfl, rfl⟩
  · have e2 : (L : Int) % 2 = 1 := by omega
    obtain ⟨q', eq', hq'⟩ : ∃ q' : Nat, (q : Int) + 1 = (q' : Int) ∧ q + 1 = q' := ⟨q + 1, by omega, rfl⟩
    have er : (L + 1) / 2 = q' := by omega
    rw [er]
    clear er h1 hq hq'
    go_enter Tryz.func60, Tryz.ntmps60
    go_wp2_with fail
    refine HL.mono ?_
    rintro e wn ⟨rfl, hw⟩; subst hw
    clear HL
    go_wp2
    go_ret
    exact ⟨rfl, rfl⟩

theorem ranswers_few (v1 v2 : Value) (r2 : List Nat) (w : World) (hA : Arg w v2 r2) (h : blen (val r2) ≤ 67108864) :
    Calls Tryz.prog 61 #[v1, v2] w fun e w' => e = .returned (.tuple #[v1, v2, .int .i64 0]) ∧ w' = w := by
  have HL := length_val _ _ w hA
  have i1 : ¬ ((67108864 : Int) < (blen (val r2) : Int)) := by omega
  have HA : Calls Tryz.prog 64 #[v2] w fun e w' => e = .returned (.tuple #[v2, .int .i64 0]) ∧ w' = w := by
    obtain ⟨a1, k1, rfl, _, _, _⟩ := hA.form
    generalize blen (val r2) = L at *
    clear hA h
    go_enter Tryz.func64, Tryz.ntmps64
    go_wp2_with fail
    refine HL.mono ?_
    rintro e wn ⟨rfl, hw⟩; subst hw
    clear HL
    go_wp2
    go_ret2
    exact ⟨rfl, rfl⟩
  clear HL i1 hA h
  go_enter Tryz.func61, Tryz.ntmps61
  go_wp2_with fail
  refine HA.mono ?_
  rintro e wn ⟨rfl, hw⟩; subst hw
  clear HA
  go_wp2
  go_returns
  exact ⟨rfl, rfl⟩

theorem rint_any (c : Nat) (w : World) (hc : c < 1000) : Calls Tryz.prog 8 #[.int .i64 c] w fun e w' => (∃ v, e = .returned v ∧ Num w' v c) ∧ Below w.heap.size w w' := by
  have hA := Arg.lits w [c] #[.int .u64 (c : Int)] 1 rfl rfl (by intro z hz; simp at hz; omega) (by simp)
  have hb : Below w.heap.size w (w.alloc (.cells #[.int .u64 (c : Int)] 32)) := (Below.refl _ _).alloc (Nat.le_refl _) _
  have HO := of_any _ [c] _ hA (by simp)
  rw [show val [c] = c by simp [val]] at HO
  have HB := hide hb
  clear hA hb
  go_enter Tryz.func8, Tryz.ntmps8
  go_wp2_with fail
  refine HO.mono ?_
  rintro e w2 ⟨⟨v, rfl, N⟩, hb2⟩
  have HX := hide (And.intro N (HB.out.trans (hb2.mono HB.out.size)))
  clear N hb2 HO
  go_wp2
  go_ret
  exact ⟨⟨v, rfl, HX.out.1⟩, HX.out.2⟩

set_option maxHeartbeats 1000000 in
theorem sqrt_small (vb : Value) (X : List Nat) (s : Nat) (w : World) (hA : Arg w vb X) (hX : 0 < val X) (h1 : (tr X).length ≤ 1) (hs : IsRoot2 (val X) s) :
    Calls Tryz.prog 46 #[vb] w fun e w' => (∃ v1 v2 r1 r2, e = .returned (.tuple #[v1, v2, .int .i64 0]) ∧ Ans w' w.heap.size v1 r1 ∧ Ans w' w.heap.size v2 r2 ∧ val r1 = s ∧ tr r1 = r1 ∧ val r2 = val X - s * s ∧ tr r2 = r2) ∧ Below w.heap.size w w' := by
  have HR := rootLength_two vb X w hA
  have HS := second_small vb X s w hA hX h1 hs
  have hx1 : val X < 18446744073709551616 := by
    have h2 := val_lt (limbs_tr hA.limbs)
    rw [val_tr] at h2
    exact Nat.lt_of_lt_of_le h2 (Nat.le_trans (Nat.pow_le_pow_right (by omega) h1) (by simp))
  have hb64 : blen (val X) ≤ 64 := (blen_le_iff _ 64).2 hx1
  have i1 : ¬ ((67108864 : Int) < (((blen (val X) + 1) / 2 : Nat) : Int)) := by omega
  obtain ⟨a1, k1, rfl, _, _, _⟩ := hA.form
  have HX1 := hide hx1
  generalize (blen (val X) + 1) / 2 = L at *
  clear hA hX h1 hs hb64 hx1
  go_enter Tryz.func46, Tryz.ntmps46
  go_wp2_with fail
  refine HR.mono ?_
  rintro e wn ⟨rfl, hw⟩; rw [hw]; clear hw wn HR
  go_wp2_with fail
  refine HS.mono ?_
  rintro e w1 ⟨⟨v1, v2, r1, r2, rfl, A1, A2, e1, t1, e2, t2⟩, hb1⟩
  have hv2 : blen (val r2) ≤ 64 := (blen_le_iff _ 64).2 (by rw [e2]; exact Nat.lt_of_le_of_lt (Nat.sub_le _ _) HX1.out)
  have l2 : r2.length ≤ 1 := by
    have := few_limbs r2 1 (by omega)
    rwa [t2] at this
  have HA := ranswers_few v1 v2 r2 w1 (A2.arg (by omega)) (by omega)
  have H1 := hide (And.intro A1 (And.intro A2 (And.intro e1 (And.intro t1 (And.intro e2 (And.intro t2 hb1))))))
  clear HS A1 A2 e1 t1 e2 t2 hb1 hv2 l2
  go_wp2_with fail
  refine HA.mono ?_
  rintro e wn ⟨rfl, hw⟩; subst hw
  clear HA
  go_wp2
  go_returns
  obtain ⟨q1, q2, q3, q4, q5, q6, q7⟩ := H1.out
  exact ⟨⟨v1, v2, r1, r2, rfl, q1, q2, q3, q4, q5, q6⟩, q7⟩

end Go.Proofs.YtppblbhkghjphaaGreatDoor
