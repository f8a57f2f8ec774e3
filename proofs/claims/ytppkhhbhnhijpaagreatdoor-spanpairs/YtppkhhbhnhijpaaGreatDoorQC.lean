/- Package nat: Tail, as far as which limb it tells; the table of math/bits. -/
import Derived.Test.YtppkhhbhnhijpaaGreatDoorQB
namespace Go.Proofs.YtppkhhbhnhijpaaGreatDoor
open Go.RowKit
open Lm
attribute [local go_sem ↓] Go.wp_at_zero Go.wp_at_succ

/-- The table of math/bits. -/
def tab64 : List Nat := [0, 1, 56, 2, 57, 49, 28, 3, 61, 58, 42, 50, 38, 29, 17, 4, 62, 47, 59, 36, 45, 43, 51, 22, 53, 39, 33, 30, 24, 18, 12, 5, 63, 55, 48, 27, 60, 41, 37, 16, 46, 35, 44, 21, 52, 32, 23, 11, 54, 26, 40, 15, 34, 20, 31, 10, 25, 14, 19, 9, 13, 8, 7, 6]

theorem tab64_lt (i : Nat) : tab64.getD i 0 < 64 := by
  by_cases h : i < 64
  · have : ∀ j : Fin 64, tab64.getD j.1 0 < 64 := by decide
    exact this ⟨i, h⟩
  · have : tab64.length ≤ i := by show 64 ≤ i; omega
    simp [List.getD, this]

/-- The table's variable holds it. -/
def Tab (w : World) : Prop := 0 < w.heap.size ∧ ∀ i, i < 64 → w.cell? ⟨0, i, none⟩ = some (.int .u8 ((tab64.getD i 0 : Nat) : Int))

theorem Tab.below {w w' : World} (h : Tab w) (hb : Below w.heap.size w w') : Tab w' :=
  ⟨Nat.lt_of_lt_of_le h.1 hb.size, fun i hi => by rw [hb.cell (p := ⟨0, i, none⟩) h.1]; exact h.2 i hi⟩

set_option maxRecDepth 20000 in
theorem tz_weak (x : Nat) (w : World) (h0 : x ≠ 0) (hT : Tab w) :
    Calls Tryz.prog 162 #[.int .u64 x] w fun e w' => (∃ t : Nat, t < 64 ∧ e = .returned (.int .i64 (t : Int))) ∧ w' = w := by
  have hd : ((x : Int) == 0) = false := by rw [beq_eq_false_iff_ne]; omega
  obtain ⟨j, hj, ej⟩ : ∃ j : Nat, j < 64 ∧ IntKind.u64.wrap (bits BinOp.and IntKind.u64 (x : Int) (IntKind.u64.wrap (-(x : Int))) * 285870213051353865) / 288230376151711744 = (j : Int) := by
    generalize bits BinOp.and IntKind.u64 (x : Int) (IntKind.u64.wrap (-(x : Int))) * 285870213051353865 = y
    refine ⟨(IntKind.u64.wrap y / 288230376151711744).toNat, ?_, ?_⟩ <;> (rw [IntKind.wrap_u64]; omega)
  have hc := hT.2 j hj
  have ht := tab64_lt j
  generalize tab64.getD j 0 = t at *
  have hj2 : (j : Int) < 64 := by omega
  have hj3 : (0 : Int) ≤ (j : Int) := by omega
  clear hT
  go_enter Tryz.func162, Tryz.ntmps162
  go_wp2
  go_ret
  exact ⟨⟨t, ht, rfl⟩, rfl⟩

/-- How many limbs at the bottom are nought (0, if all are). -/
def low0 : List Nat → Nat
  | [] => 0
  | z :: r => if z = 0 then (if val r = 0 then 0 else low0 r + 1) else 0

/-- The first limb that isn't nought. -/
theorem low0_at (X : List Nat) (k : Nat) (h : k < X.length) (h1 : val (X.take k) = 0) (h2 : X.getD k 0 ≠ 0) : low0 X = k := by
  induction X generalizing k with
  | nil => simp at h
  | cons z r ih =>
    cases k with
    | zero =>
      have : z ≠ 0 := by simpa using h2
      simp [low0, this]
    | succ k =>
      rw [List.take_succ_cons, val] at h1
      have hz : z = 0 := by omega
      have hr : val (r.take k) = 0 := by omega
      rw [List.getD_cons_succ] at h2
      have hk : k < r.length := by simpa using h
      have hv : val r ≠ 0 := by
        intro e
        have h3 := val_take_succ r k hk
        have h4 : val r = val (r.take (k + 1)) + 18446744073709551616 ^ (k + 1) * val (r.drop (k + 1)) := by
          conv => lhs; rw [← List.take_append_drop (k + 1) r, val_append]
          rw [List.length_take, Nat.min_eq_left hk]
        rw [h4, h3] at e
        have h5 : 18446744073709551616 ^ k * r.getD k 0 = 0 := by omega
        rcases Nat.mul_eq_zero.1 h5 with h6 | h6
        · exact absurd h6 (Nat.pos_iff_ne_zero.1 (Nat.pow_pos (by omega)))
        · exact h2 h6
      rw [low0, if_pos hz, if_neg hv, ih k hk hr h2]

theorem low0_zero (X : List Nat) (h : val X = 0) : low0 X = 0 := by
  cases X with
  | nil => rfl
  | cons z r =>
    rw [val] at h
    rw [low0, if_pos (by omega), if_pos (by omega)]

set_option maxHeartbeats 400000 in
theorem tail_weak (v : Value) (X : List Nat) (w : World) (hA : Arg w v X) (hT : Tab w) :
    Calls Tryz.prog 146 #[v] w fun e w' => (∃ t : Nat, t < 64 ∧ e = .returned (.int .i64 ((low0 X * 64 + t : Nat) : Int))) ∧ w' = w := by
  obtain ⟨a1, c1, rfl, hcc1, hcm1, hl1⟩ := hA.form
  have M1 := hA.limbs
  have hX := hA.few
  clear hA
  have HT := hide hT
  clear hT
  go_enter Tryz.func146, Tryz.ntmps146
  go_wp2
  go_loopw [7] (fun i wr => ∃ k : Nat, k ≤ X.length ∧ i = .int .i64 k ∧ wr = w ∧ val (X.take k) = 0) (fun i _ => X.length - (intOf i).toNat)
  case atStart => exact ⟨0, Nat.zero_le _, rfl, rfl, by simp [val]⟩
  case round =>
    obtain ⟨k, hk, rfl, rfl, hval⟩ := hrel
    have HV := hide hval
    clear hval
    by_cases hkl : k < X.length
    · rcases hl1 with h0 | ⟨b, off, rfl, hcell⟩
      · rw [h0] at hkl; simp at hkl
      · have hck := hcell k hkl
        have z1 := limb_lt M1 k
        by_cases hz : X.getD k 0 = 0
        · rw [hz] at hck
          have HV2 : Hid (val (X.take (k + 1)) = 0) := hide (by rw [val_take_succ X k hkl, HV.out, hz]; simp)
          clear hcell hz
          go_wp2
          go_roundw
          case rel => exact ⟨k + 1, by omega, by go_num, trivial, HV2.out⟩
          case measure => simp [intOf]; omega
        · have HK := hide (low0_at X k hkl HV.out hz)
          have H := tz_weak (X.getD k 0) wr hz HT.out
          have hne : ((X.getD k 0 : Int) == 0) = false := by rw [beq_eq_false_iff_ne]; omega
          have hne2 : ((X.getD k 0 : Int) != 0) = true := by rw [bne, hne]; rfl
          generalize X.getD k 0 = x at *
          clear hcell
          go_wp2_with fail
          refine H.mono ?_
          rintro e w2 ⟨⟨t, ht, rfl⟩, hw⟩
          subst hw
          clear H
          go_wp2
          go_ret
          refine ⟨⟨t, ht, ?_⟩, rfl⟩
          rw [HK.out]
          exact congrArg (fun i => Ending.returned (Value.int IntKind.i64 i)) (by omega)
    · have ek : k = X.length := by omega
      subst ek
      rw [List.take_length] at HV
      have HK := hide (low0_zero X HV.out)
      clear hl1
      go_wp2
      go_ret
      exact ⟨⟨0, by omega, by rw [HK.out]; rfl⟩, rfl⟩

end Go.Proofs.YtppkhhbhnhijpaaGreatDoor
