/- Package roots: secondOfLimb, and Sqrt of one limb. -/
import Derived.Test.YtppblbhkghjphaaGreatDoorRootPZ
import Derived.Test.YtppblbhkghjphaaGreatDoorQJ
import Derived.Test.YtppblbhkghjphaaGreatDoorQB
import Derived.Test.YtppblbhkghjphaaGreatDoorQK
namespace Go.Proofs.YtppblbhkghjphaaGreatDoor
open Go.RowKit
open Lm
attribute [local go_sem ↓] Go.wp_at_zero Go.wp_at_succ

set_option maxRecDepth 20000 in
set_option maxHeartbeats 1000000 in
theorem secondOfLimb_any (v s : Nat) (w : World) (hv : v < 18446744073709551616) (hs : IsRoot2 v s) (h0 : 0 < v) :
    Calls Tryz.prog 82 #[.int .u64 v] w fun e w' => e = .returned (.int .u64 (s : Int)) ∧ w' = w := by
  have HLN := Tryz.bits_Len64 (v : Int) w (by omega) (by omega)
  rw [Int.toNat_natCast] at HLN
  have hbl : v < 2 ^ Lib.bitLen v := by
    obtain ⟨_, _, h3⟩ := Lib.bitLenAux_bounds 64 v hv (by omega)
    exact h3
  have hb64 : Lib.bitLen v ≤ 64 := Lib.bitLen_le v 64 (by omega) hv
  obtain ⟨k, ek, hk1, hk2⟩ : ∃ k : Nat, ((Lib.bitLen v : Int) + 1) / 2 = (k : Int) ∧ Lib.bitLen v ≤ k + k ∧ k ≤ 32 := ⟨(Lib.bitLen v + 1) / 2, by omega, by omega, by omega⟩
  have hfirst : s ≤ 2 ^ k := newton_first hs (Nat.lt_of_lt_of_le hbl (Nat.pow_le_pow_right (by omega) hk1))
  have hp32 : 2 ^ k ≤ 4294967296 := Nat.pow_le_pow_right (n := 2) (by omega) hk2
  have hs0 : 0 < s := by
    rcases Nat.eq_zero_or_pos s with z | z
    · have := hs.2; rw [z] at this; omega
    · exact z
  have hne : ((v : Int) == 0) = false := by rw [beq_eq_false_iff_ne]; omega
  have HS := hide hs
  have rsh := wrap_mul 1 k (2 ^ k) (by rw [Nat.one_mul]; exact Nat.mod_eq_of_lt (by omega))
  have rsh2 : IntKind.u64.wrap ((2 : Int) ^ k) = (2 : Int) ^ k := by
    have h := rsh
    rw [show ((1 : Nat) : Int) * 2 ^ k = (2 : Int) ^ k by simp] at h
    rw [h]; simp
  generalize Lib.bitLen v = L at *
  clear hs hbl
  go_enter Tryz.func82, Tryz.ntmps82
  go_wp2_with fail
  refine HLN.mono ?_
  rintro e wn ⟨rfl, hw⟩; rw [hw]; clear hw wn HLN
  go_wp2
  go_loop [3] (fun x => ∃ c : Nat, x = .int .u64 c ∧ s ≤ c ∧ c ≤ 4294967296) (fun x => (intOf x).toNat)
  case atStart => exact ⟨2 ^ k, by simp, hfirst, hp32⟩
  case round =>
    obtain ⟨c, rfl, hc1, hc2⟩ := hrel
    have hc0 : 0 < c := by omega
    have hz : ((c : Int) == 0) = false := by rw [beq_eq_false_iff_ne]; omega
    have hdiv : (v : Int) / (c : Int) = ((v / c : Nat) : Int) := by omega
    have hroom := newton_room HS.out hc1 hs0 hc2
    have hge := newton_ge HS.out hc0
    have hend := fun h => newton_end HS.out hc0 hc1 h
    generalize v / c = q at *
    obtain ⟨t, et, ht1, ht2⟩ : ∃ t : Nat, (c : Int) + (q : Int) = (t : Int) ∧ t < 18446744073709551616 ∧ c + q = t := ⟨c + q, by omega, by omega, rfl⟩
    rw [ht2] at hge hend
    obtain ⟨n, en, hn1, hn2⟩ : ∃ n : Nat, (t : Int) / 2 = (n : Int) ∧ n ≤ t ∧ t / 2 = n := ⟨t / 2, by omega, by omega, rfl⟩
    rw [hn2] at hge hend
    clear hroom ht2 hn2 rsh rsh2
    by_cases hcn : c ≤ n
    · have hcs := hend hcn
      subst hcs
      have i1 : (c : Int) ≤ (n : Int) := by omega
      clear hend
      go_wp2
      go_ret
      exact ⟨rfl, rfl⟩
    · have i1 : ¬ ((c : Int) ≤ (n : Int)) := by omega
      clear hend
      go_wp2
      go_round
      case rel => exact ⟨n, rfl, hge, by omega⟩
      case measure => simp [intOf]; omega

/-- What second leaves of a number of one limb. -/
theorem second_small (vb : Value) (X : List Nat) (s : Nat) (w : World) (hA : Arg w vb X) (hX : 0 < val X) (h1 : (tr X).length ≤ 1) (hs : IsRoot2 (val X) s) :
    Calls Tryz.prog 62 #[vb] w fun e w' => (∃ v1 v2 r1 r2, e = .returned (.tuple #[v1, v2]) ∧ Ans w' w.heap.size v1 r1 ∧ Ans w' w.heap.size v2 r2 ∧ val r1 = s ∧ tr r1 = r1 ∧ val r2 = val X - s * s ∧ tr r2 = r2) ∧ Below w.heap.size w w' := by
  have HS := small_any vb X w hA
  rw [if_pos h1, decide_eq_true h1] at HS
  have hx1 : val X < 18446744073709551616 := by
    have h2 := val_lt (limbs_tr hA.limbs)
    rw [val_tr] at h2
    exact Nat.lt_of_lt_of_le h2 (Nat.le_trans (Nat.pow_le_pow_right (by omega) h1) (by simp))
  have hg : (tr X).getD 0 0 = val X := by
    rw [← val_tr X] at hX ⊢
    match h : tr X, h1, hX with
    | [], _, hX => simp [val] at hX
    | [a], _, _ => simp [val]
    | a :: b :: c, h1, _ => simp at h1
  rw [hg] at HS
  have HR := secondOfLimb_any (val X) s w hx1 hs hX
  have hsq : s * s ≤ val X := hs.1
  have hs1 : s < 18446744073709551616 := by
    rcases Nat.eq_zero_or_pos s with z | z
    · omega
    · exact Nat.lt_of_le_of_lt (Nat.le_mul_of_pos_left s z) (by omega)
  have HF := from_any s w hs1
  obtain ⟨a1, k1, rfl, _, _, _⟩ := hA.form
  generalize val X = v at *
  obtain ⟨q, hq, hq1⟩ : ∃ q : Nat, (s : Int) * (s : Int) = (q : Int) ∧ s * s = q := ⟨s * s, by rw [Int.natCast_mul], rfl⟩
  rw [hq1] at hsq ⊢
  obtain ⟨d, hd, hd1⟩ : ∃ d : Nat, (v : Int) - (q : Int) = (d : Int) ∧ v - q = d := ⟨v - q, by omega, rfl⟩
  rw [hd1]
  have hdl : d < 18446744073709551616 := by omega
  have hql : q < 18446744073709551616 := by omega
  clear hA hX h1 hs hg hq1 hd1
  go_enter Tryz.func62, Tryz.ntmps62
  go_wp2_with fail
  refine HS.mono ?_
  rintro e wn ⟨rfl, hw⟩; rw [hw]; clear hw wn HS
  go_wp2_with fail
  refine HR.mono ?_
  rintro e wn ⟨rfl, hw⟩; rw [hw]; clear hw wn HR
  go_wp2_with fail
  refine HF.mono ?_
  rintro e w1 ⟨⟨v1, rfl, A1⟩, hb1⟩
  have HF2 := from_any d w1 hdl
  have H1 := hide (And.intro A1 hb1)
  clear HF A1 hb1
  go_wp2_with fail
  refine HF2.mono ?_
  rintro e w2 ⟨⟨v2, rfl, A2⟩, hb2⟩
  have H2 := hide (And.intro A2 hb2)
  clear HF2 A2 hb2
  go_wp2
  go_ret2
  have e1 : ∀ t : Nat, val (tr [t]) = t := fun t => by rw [val_tr]; simp [val]
  exact ⟨⟨v1, v2, tr [s], tr [d], rfl, H1.out.1.below H2.out.2, H2.out.1.base H1.out.2.size, e1 s, tr_tr _, e1 d, tr_tr _⟩, H1.out.2.trans (H2.out.2.mono H1.out.2.size)⟩

end Go.Proofs.YtppblbhkghjphaaGreatDoor
