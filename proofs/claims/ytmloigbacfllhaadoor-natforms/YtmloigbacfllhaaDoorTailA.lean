/- Package nat: Tail, told exactly; Bit, Small, Norm. -/
import Derived.Test.YtmloigbacfllhaaDoorTailP
import Derived.Test.YtmloigbacfllhaaDoorNatD
import Derived.Test.YtmloigbacfllhaaDoorBitP
namespace Go.Proofs.YtmloigbacfllhaaDoor
open Go.RowKit
open Lm
attribute [local go_sem ↓] Go.wp_at_zero Go.wp_at_succ

theorem isTail_val (X : List Nat) (k t : Nat) (h : k < X.length) (h1 : val (X.take k) = 0) (h2 : IsTail (X.getD k 0) t) (ht : t < 64) : IsTail (val X) (64 * k + t) := by
  have e := isTail_of h2
  generalize X.getD k 0 / 2 ^ t / 2 = m at e
  have h3 := val_take_succ X k h
  have h4 : val X = val (X.take (k + 1)) + 18446744073709551616 ^ (k + 1) * val (X.drop (k + 1)) := by
    conv => lhs; rw [← List.take_append_drop (k + 1) X, val_append]
    rw [List.length_take, Nat.min_eq_left h]
  rw [h3, h1, e, Nat.zero_add] at h4
  have e1 : (18446744073709551616 : Nat) ^ k = 2 ^ (64 * k) := by rw [Nat.pow_mul]
  have e2 : (18446744073709551616 : Nat) ^ (k + 1) = 2 ^ (64 * k) * (2 ^ t * (2 * 2 ^ (63 - t))) := by
    rw [Nat.pow_succ, e1]
    congr 1
    rw [← Nat.pow_succ', ← Nat.pow_add]
    have : t + (63 - t + 1) = 64 := by omega
    rw [this]
  rw [e1, e2] at h4
  have h5 : val X = 2 ^ (64 * k + t) * (2 * (m + 2 ^ (63 - t) * val (X.drop (k + 1))) + 1) := by
    rw [h4, Nat.pow_add]
    generalize 2 ^ (64 * k) = a
    generalize 2 ^ t = b
    generalize 2 ^ (63 - t) = c
    generalize val (X.drop (k + 1)) = d
    grind
  rw [h5]; exact isTail_form _ _

set_option maxRecDepth 20000 in
set_option maxHeartbeats 400000 in
theorem tail_any (v : Value) (X : List Nat) (w : World) (hA : Arg w v X) (hT : Tab w) :
    Calls Tryd.prog 20 #[v] w fun e w' => (∃ t : Nat, t ≤ 64 * X.length ∧ e = .returned (.int .i64 (t : Int)) ∧ (val X = 0 → t = 0) ∧ (val X ≠ 0 → IsTail (val X) t)) ∧ w' = w := by
  obtain ⟨a1, c1, rfl, hcc1, hcm1, hl1⟩ := hA.form
  have M1 := hA.limbs
  have hX := hA.few
  clear hA
  have HT := hide hT
  clear hT
  go_enter Tryd.func20, Tryd.ntmps20
  go_wp2
  go_loopw [7] (fun i wr => ∃ k : Nat, k ≤ X.length ∧ i = .int .i64 k ∧ wr = w ∧ val (X.take k) = 0) (fun i _ => X.length - (intOf i).toNat)
  case atStart => exact ⟨0, Nat.zero_le _, rfl, rfl, by simp [val]⟩
  case round =>
    obtain ⟨k, hk, rfl, rfl, hval⟩ := hrel
    have HV := hide hval
    clear hval
    by_cases hkl : k < X.length
    · rcases hl1 with h0 | ⟨b, off, rfl, hcell⟩
      · rw [h0] at hkl; simp at hkl
      · have hck := hcell k hkl
        have z1 := limb_lt M1 k
        by_cases hz : X.getD k 0 = 0
        · rw [hz] at hck
          have HV2 : Hid (val (X.take (k + 1)) = 0) := hide (by rw [val_take_succ X k hkl, HV.out, hz]; simp)
          clear hcell hz
          go_wp2
          go_roundw
          case rel => exact ⟨k + 1, by omega, by go_num, trivial, HV2.out⟩
          case measure => simp [intOf]; omega
        · obtain ⟨t, ht⟩ := tail_is _ hz
          have htl := isTail_lt (n := 64) ht z1
          have HK := hide (isTail_val X k t hkl HV.out ht htl)
          have H := tz_any (X.getD k 0) t wr z1 ht HT.out
          have hne : ((X.getD k 0 : Int) == 0) = false := by rw [beq_eq_false_iff_ne]; omega
          have hne2 : ((X.getD k 0 : Int) != 0) = true := by rw [bne, hne]; rfl
          clear ht
          generalize X.getD k 0 = x at *
          clear hcell
          go_wp2_with fail
          refine H.mono ?_
          rintro e w2 ⟨rfl, hw⟩
          subst hw
          clear H
          go_wp2
          go_ret
          refine ⟨⟨64 * k + t, by omega, ?_, ?_, fun _ => HK.out⟩, rfl⟩
          · exact congrArg (fun i => Ending.returned (Value.int IntKind.i64 i)) (by omega)
          · intro e
            have := HK.out.2
            rw [e] at this
            simp at this
    · have ek : k = X.length := by omega
      subst ek
      rw [List.take_length] at HV
      clear hl1
      go_wp2
      go_ret
      exact ⟨⟨0, by omega, rfl, fun _ => rfl, fun h => absurd HV.out h⟩, rfl⟩

theorem small_any (v : Value) (X : List Nat) (w : World) (hA : Arg w v X) :
    Calls Tryd.prog 24 #[v] w fun e w' => e = .returned (.tuple #[.int .u64 ((if (tr X).length ≤ 1 then (tr X).getD 0 0 else 0 : Nat) : Int), .bool (decide ((tr X).length ≤ 1))]) ∧ w' = w := by
  obtain ⟨a1, c1, rfl, hc1, hm1, hl1⟩ := hA.form
  have T1 := trim_any a1 c1 X w hc1 hm1 hl1
  have l1 := tr_length_le X
  have L := limb_any a1 c1 (tr X) 0 w (by omega) hm1 hl1.tr
  have hX := hA.few
  clear hl1 hA
  by_cases h : (tr X).length ≤ 1
  · rw [if_pos h, decide_eq_true h]
    have h2 : ¬ ((1 : Int) < ((tr X).length : Int)) := by omega
    generalize (tr X).getD 0 0 = z at *
    go_enter Tryd.func24, Tryd.ntmps24
    go_wp2_with fail
    refine T1.mono ?_
    rintro e w2 ⟨rfl, rfl⟩
    clear T1
    go_wp2_with fail
    refine L.mono ?_
    rintro e w2 ⟨rfl, rfl⟩
    clear L
    go_wp2
    go_ret2
    exact ⟨rfl, rfl⟩
  · rw [if_neg h, decide_eq_false h]
    have h2 : ((1 : Int) < ((tr X).length : Int)) := by omega
    go_enter Tryd.func24, Tryd.ntmps24
    go_wp2_with fail
    refine T1.mono ?_
    rintro e w2 ⟨rfl, rfl⟩
    clear T1 L
    go_wp2
    go_ret2
    exact ⟨rfl, rfl⟩

end Go.Proofs.YtmloigbacfllhaaDoor
