/- Package mul: full. -/
import Derived.Test.YtmloigbacfllhaaDoorMulP
namespace Go.Proofs.YtmloigbacfllhaaDoor
open Go.RowKit
open Lm

/-- What 'full' answers: the product, with all the limbs of both, in new memory. -/
def FullDone (w : World) (n p : Nat) (e : Ending) (w' : World) : Prop :=
  ∃ (g : Nat) (Z' : List Nat), e = .returned (.slice (some ⟨g, 0, none⟩) n n) ∧ w.heap.size ≤ g ∧ Z'.length = n ∧ Limbs Z' ∧ Blk w' g Z' ∧ val Z' = p ∧ Below w.heap.size w w'

set_option maxRecDepth 20000 in
set_option maxHeartbeats 400000 in
theorem full_any (H T : Int) (va vb : Value) (X Y : List Nat) (w : World) (hA : Arg w va X) (hA2 : Arg w vb Y) (hX : 0 < X.length) (hY : 0 < Y.length) (hf : X.length + Y.length ≤ 35184372088831) (hI : IntoOk H T X Y) :
    Calls Tryd.prog 81 #[way H T, va, vb] w (FullDone w (X.length + Y.length) (val X * val Y)) := by
  unfold way
  obtain ⟨a1, c1, rfl, hcc1, hcm1, _⟩ := hA.form
  obtain ⟨a2, c2, rfl, hcc2, hcm2, _⟩ := hA2.form
  obtain ⟨i0, hi, hz0, hz1, hz2⟩ := info_parts Tryd.infoU
  obtain ⟨w1, hw1⟩ : ∃ w1, w1 = w.alloc (.cells #[.int .i64 H, .int .i64 T] 73) := ⟨_, rfl⟩
  have hbel1 : Below w.heap.size w w1 := by rw [hw1]; exact (Below.refl _ _).alloc (Nat.le_refl _) _
  have hs1 : w1.heap.size = w.heap.size + 1 := by rw [hw1]; simp
  have hb1 : w1.heap[w.heap.size]? = some (.cells #[.int .i64 H, .int .i64 T] 73) := by rw [hw1]; exact heap_alloc_new ..
  have HW1 := hide hw1
  have B1 := hide hbel1
  have HX1 := hide hb1
  clear hw1 hbel1 hb1
  obtain ⟨n, hn, en⟩ : ∃ n : Nat, X.length + Y.length = n ∧ (X.length : Int) + (Y.length : Int) = (n : Int) := ⟨_, rfl, by omega⟩
  rw [hn]
  have hn1 : n ≤ 35184372088831 := by omega
  have HN := hide hn
  clear hn
  go_enter Tryd.func81, Tryd.ntmps81
  go_wp2_with (at_make; (rw [← HW1.out]; refine wpList_make_full _ rfl _ _ 23 rfl w1.heap.size 38 i0 (.int .u64 0) 1 Tryd.underlying23 hi hz0 hz1 .i64 .i64 _ _ n rfl rfl (by omega) (by omega) (by rw [hz2]; omega) (by unfold maxLen; omega) (Nat.le_refl _) ?_; intro w3 hown hgrow; have hm3 := Blk.made hown; have hbel3 : Below w1.heap.size w1 w3 := (Below.refl _ _).grown hgrow (Nat.le_refl _) (fun k hk => by cases hk); have hbx3 : w3.heap[w.heap.size]? = some (.cells #[.int .i64 H, .int .i64 T] 73) := (hbel3.block w.heap.size (by omega)).trans HX1.out; have hc0 : w3.cell? ⟨w.heap.size, 0, none⟩ = some (.int .i64 H) := (by simp [World.cell?, hbx3]); have hc1 : w3.cell? ⟨w.heap.size, 1, none⟩ = some (.int .i64 T) := (by simp [World.cell?, hbx3]); clear hown hgrow hbx3))
  rw [hs1] at hm3
  have B3 : Hid (Below w.heap.size w w3) := hide (B1.out.trans (hbel3.mono B1.out.size))
  obtain ⟨g, hg⟩ : ∃ g, g = w.heap.size + 1 := ⟨_, rfl⟩
  rw [← hg] at hm3 ⊢
  have HI := hI g 0 n (List.replicate n 0) _ _ w3 hm3 (limbs_replicate _) (hA.below B3.out) (hA2.below B3.out) (Aside.far hA hX (by omega)) (Aside.far hA2 hY (by omega)) (by simp; have := HN.out; omega) (by have := HN.out; omega) (by omega)
  rw [HN.out] at HI
  unfold way at HI
  have HG := hide hg
  clear hg hm3 hbel3 hA hA2 hI
  go_wp2_with fail
  refine HI.mono ?_
  rintro e w5 ⟨rfl, Z', hO5, hl5, hB5, hF5, hv5⟩
  have hlen : Z'.length = n := by rw [hO5.len]; simp
  have hv : val Z' = val X * val Y := by rw [← hv5, ← hlen, sv_all]
  have HD : Hid (w.heap.size ≤ g ∧ Z'.length = n ∧ Limbs Z' ∧ Blk w5 g Z' ∧ val Z' = val X * val Y ∧ Below w.heap.size w w5) := hide ⟨by have := HG.out; omega, hlen, hl5, hB5, hv, B3.out.trans (hF5.below (by have := HG.out; omega) B3.out.size)⟩
  clear hO5 hl5 hB5 hF5 hv5 hv hlen HI B3
  go_wp2
  go_ret
  exact ⟨g, Z', rfl, HD.out⟩

/-- Karatsuba's identity, of the differences: the middle part. -/
theorem karatsuba_mid (a0 a1 b0 b1 da db : Nat) (ha : da = if a0 < a1 then a1 - a0 else a0 - a1) (hb : db = if b0 < b1 then b1 - b0 else b0 - b1) :
    (if decide (a0 < a1) ≠ decide (b0 < b1) then a0 * b0 + a1 * b1 + da * db else a0 * b0 + a1 * b1 - da * db) = a0 * b1 + a1 * b0 := by
  subst ha; subst hb
  by_cases h1 : a0 < a1 <;> by_cases h2 : b0 < b1
  · obtain ⟨p, rfl⟩ : ∃ p, a1 = a0 + p := ⟨a1 - a0, by omega⟩
    obtain ⟨q, rfl⟩ : ∃ q, b1 = b0 + q := ⟨b1 - b0, by omega⟩
    simp only [h1, h2, decide_true, if_true, ne_eq, not_true_eq_false, if_false, Nat.add_sub_cancel_left]
    have : a0 * b0 + (a0 + p) * (b0 + q) = a0 * (b0 + q) + (a0 + p) * b0 + p * q := by grind
    omega
  · obtain ⟨p, rfl⟩ : ∃ p, a1 = a0 + p := ⟨a1 - a0, by omega⟩
    obtain ⟨q, rfl⟩ : ∃ q, b0 = b1 + q := ⟨b0 - b1, by omega⟩
    simp only [h1, h2, decide_true, decide_false, if_true, if_false, ne_eq, Bool.true_eq_false, not_false_eq_true, Nat.add_sub_cancel_left]
    grind
  · obtain ⟨p, rfl⟩ : ∃ p, a0 = a1 + p := ⟨a0 - a1, by omega⟩
    obtain ⟨q, rfl⟩ : ∃ q, b1 = b0 + q := ⟨b1 - b0, by omega⟩
    simp only [h1, h2, decide_true, decide_false, if_true, if_false, ne_eq, Bool.false_eq_true, not_false_eq_true, Nat.add_sub_cancel_left]
    grind
  · obtain ⟨p, rfl⟩ : ∃ p, a0 = a1 + p := ⟨a0 - a1, by omega⟩
    obtain ⟨q, rfl⟩ : ∃ q, b0 = b1 + q := ⟨b0 - b1, by omega⟩
    simp only [h1, h2, decide_false, if_false, ne_eq, not_true_eq_false, Nat.add_sub_cancel_left]
    have : (a1 + p) * (b1 + q) + a1 * b1 = (a1 + p) * b1 + a1 * (b1 + q) + p * q := by grind
    omega

end Go.Proofs.YtmloigbacfllhaaDoor
