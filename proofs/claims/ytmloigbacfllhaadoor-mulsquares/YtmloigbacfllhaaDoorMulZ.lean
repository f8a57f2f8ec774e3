/- Package mul: Mul, School, Karatsuba, Toom, Square, of any numbers. -/
import Derived.Test.YtmloigbacfllhaaDoorMulX
import Derived.Test.YtmloigbacfllhaaDoorMulY
import Derived.Test.YtmloigbacfllhaaDoorMulG
import Derived.Test.YtmloigbacfllhaaDoorShift
namespace Go.Proofs.YtmloigbacfllhaaDoor
open Go.RowKit
open Lm

/-- Whole, as far as the product isn't too great for sure. -/
theorem whole_fits (H T : Int) (hH : 2 ≤ H) (hTT : 3 ≤ T) (va vb : Value) (X Y : List Nat) (w : World) (hA : Arg w va X) (hA2 : Arg w vb Y) (hT : Tab w) (hf : X.length + Y.length ≤ 35184372088831) (hl : (tr X).length + (tr Y).length ≤ 4398046511103 ∨ val X = 0 ∨ val Y = 0) :
    Calls Tryd.prog 67 #[way H T, va, vb] w (WholeDone w (val X * val Y) (X.length + Y.length)) := by
  by_cases hz : val X = 0 ∨ val Y = 0
  · rw [show val X * val Y = 0 by rcases hz with h | h <;> rw [h] <;> simp]
    exact whole_zero H T (by omega) (by omega) va vb X Y w hA hA2 hT hz hf
  · refine whole_pos H T va vb X Y w hA hA2 hT (fun e => hz (.inl e)) (fun e => hz (.inr e)) hf ?_
    exact into_ok H T hH hTT 4398046511103 _ _ (by rw [List.length_drop, List.length_drop]; rcases hl with h | h; omega; exact absurd h hz) (Nat.le_refl _)

theorem least_few (X Y : List Nat) (h : least (val X) (val Y) ≤ 67108864) : (tr X).length + (tr Y).length ≤ 4398046511103 ∨ val X = 0 ∨ val Y = 0 := by
  by_cases hz : val X = 0 ∨ val Y = 0
  · exact .inr hz
  · left
    unfold least at h
    rw [if_neg hz] at h
    have hx : blen (val X) ≠ 0 := by unfold blen; rw [if_neg (fun e => hz (.inl e))]; omega
    have hy : blen (val Y) ≠ 0 := by unfold blen; rw [if_neg (fun e => hz (.inr e))]; omega
    have h1 := few_limbs X 1048576 (by omega)
    have h2 := few_limbs Y 1048576 (by omega)
    omega

set_option maxHeartbeats 400000 in
theorem product_any (H T : Int) (hH : 2 ≤ H) (hTT : 3 ≤ T) (va vb : Value) (X Y : List Nat) (w : World) (hA : Arg w va X) (hA2 : Arg w vb Y) (hT : Tab w) (hf : X.length + Y.length ≤ 35184372088831) :
    Calls Tryd.prog 55 #[way H T, va, vb] w fun e w' => Below w.heap.size w w' ∧ Res w' w.heap.size e (val X * val Y) := by
  obtain ⟨w1, hw1⟩ : ∃ w1, w1 = w.alloc (.cells #[.int .i64 H, .int .i64 T] 73) := ⟨_, rfl⟩
  have hbel1 : Below w.heap.size w w1 := by rw [hw1]; exact (Below.refl _ _).alloc (Nat.le_refl _) _
  have hb1 : w1.heap[w.heap.size]? = some (.cells #[.int .i64 H, .int .i64 T] 73) := by rw [hw1]; exact heap_alloc_new ..
  have hc0 : w1.cell? ⟨w.heap.size, 0, none⟩ = some (.int .i64 H) := by simp [World.cell?, hb1]
  have hc1 : w1.cell? ⟨w.heap.size, 1, none⟩ = some (.int .i64 T) := by simp [World.cell?, hb1]
  have H1 := leastLength_any va vb X Y w1 (hA.below hbel1) (hA2.below hbel1) (by omega) (by omega)
  have hle := least_le (val X) (val Y)
  by_cases hbig : least (val X) (val Y) ≤ 67108864
  · have H2 := whole_fits H T hH hTT va vb X Y w1 (hA.below hbel1) (hA2.below hbel1) (hT.below hbel1) hf (least_few X Y hbig)
    have B1 := hide hbel1
    have HW1 := hide hw1
    clear hA hA2 hT hw1 hbel1 hb1
    unfold way at *
    generalize val X * val Y = p at *
    generalize least (val X) (val Y) = l at *
    go_enter Tryd.func55, Tryd.ntmps55
    go_wp2_with fail
    rw [← HW1.out]
    refine H1.mono ?_
    rintro e w2 ⟨rfl, hw⟩; subst hw
    clear H1 HW1
    go_wp2_with fail
    refine H2.mono ?_
    rintro e w3 ⟨⟨v, rs, rfl, hans, hv, ht, hl⟩, hb⟩
    have HR := manswer_own v w.heap.size rs w3 (hans.base B1.out.size) (by omega)
    rw [hv] at HR
    have B3 : Hid (Below w.heap.size w w3) := B1.out.trans (hb.mono B1.out.size)
    clear H2 hans hv ht hb hc0 hc1
    go_wp2_with fail
    refine HR.mono ?_
    rintro e w4 ⟨hw, hres⟩; subst hw
    unfold Res at hres
    obtain ⟨v, c, rs, rfl, hres⟩ := hres
    have HX := hide hres
    clear hres HR
    go_wp2
    go_ret2
    exact ⟨B3.out, v, c, rs, rfl, HX.out⟩
  · have HP : Hid (67108864 < blen (val X * val Y)) := hide (by omega)
    have B1 := hide hbel1
    have HW1 := hide hw1
    clear hle hA hA2 hT hw1 hbel1 hb1
    unfold way at *
    generalize val X * val Y = p at *
    generalize least (val X) (val Y) = l at *
    go_enter Tryd.func55, Tryd.ntmps55
    go_wp2_with fail
    rw [← HW1.out]
    refine H1.mono ?_
    rintro e w2 ⟨rfl, hw⟩; subst hw
    clear H1 HW1
    go_wp2
    go_ret2
    exact ⟨B1.out, _, _, [], rfl, Ans.nil _ _, .inr ⟨rfl, rfl, HP.out⟩⟩

theorem mul_any (va vb : Value) (X Y : List Nat) (w : World) (hA : Arg w va X) (hA2 : Arg w vb Y) (hT : Tab w) (hf : X.length + Y.length ≤ 35184372088831) :
    Calls Tryd.prog 28 #[va, vb] w fun e w' => Below w.heap.size w w' ∧ Res w' w.heap.size e (val X * val Y) := by
  have HQ := quick_any w
  go_enter Tryd.func28, Tryd.ntmps28
  go_wp2_with fail
  refine HQ.mono ?_
  rintro e w1 ⟨rfl, hb⟩
  have B1 := hide hb
  have HP := product_any 40 200 (by omega) (by omega) va vb X Y w1 (hA.below hb) (hA2.below hb) (hT.below hb) hf
  generalize way 40 200 = W at *
  clear hb HQ hA hA2 hT
  go_wp2_with fail
  refine HP.mono ?_
  rintro e w2 ⟨hb, v, c, rs, rfl, hans, hres⟩
  have HR := hide (And.intro (B1.out.trans (hb.mono B1.out.size)) (And.intro (hans.base B1.out.size) hres))
  clear hb hans hres HP
  go_wp2
  go_ret2
  exact ⟨HR.out.1, v, c, rs, rfl, HR.out.2.1, HR.out.2.2⟩

theorem mschool_any (va vb : Value) (X Y : List Nat) (w : World) (hA : Arg w va X) (hA2 : Arg w vb Y) (hT : Tab w) (hf : X.length + Y.length ≤ 35184372088831) :
    Calls Tryd.prog 29 #[va, vb] w fun e w' => Below w.heap.size w w' ∧ Res w' w.heap.size e (val X * val Y) := by
  have HP := product_any 9223372036854775807 9223372036854775807 (by omega) (by omega) va vb X Y w hA hA2 hT hf
  unfold way at HP
  clear hA hA2 hT
  go_enter Tryd.func29, Tryd.ntmps29
  go_wp2_with fail
  refine HP.mono ?_
  rintro e w2 ⟨hb, v, c, rs, rfl, hans, hres⟩
  have HR := hide (And.intro hb (And.intro hans hres))
  clear hb hans hres HP
  go_wp2
  go_ret2
  exact ⟨HR.out.1, v, c, rs, rfl, HR.out.2.1, HR.out.2.2⟩

theorem karatsuba_any (va vb : Value) (X Y : List Nat) (c : Int) (w : World) (hA : Arg w va X) (hA2 : Arg w vb Y) (hT : Tab w) (hf : X.length + Y.length ≤ 35184372088831) (hc : 2 ≤ c) :
    Calls Tryd.prog 30 #[va, vb, .int .i64 c] w fun e w' => Below w.heap.size w w' ∧ Res w' w.heap.size e (val X * val Y) := by
  have HP := product_any c 9223372036854775807 hc (by omega) va vb X Y w hA hA2 hT hf
  unfold way at HP
  have hd : decide (c < 2) = false := decide_eq_false (by omega)
  clear hA hA2 hT
  go_enter Tryd.func30, Tryd.ntmps30
  go_wp2_with fail
  refine HP.mono ?_
  rintro e w2 ⟨hb, v, c, rs, rfl, hans, hres⟩
  have HR := hide (And.intro hb (And.intro hans hres))
  clear hb hans hres HP
  go_wp2
  go_ret2
  exact ⟨HR.out.1, v, c, rs, rfl, HR.out.2.1, HR.out.2.2⟩

theorem karatsuba_no (va vb : Value) (c : Int) (w : World) (hc : c < 2) :
    Calls Tryd.prog 30 #[va, vb, .int .i64 c] w fun e w' => e = .returned (.tuple #[.slice none 0 0, .int .i64 1]) ∧ w' = w := by
  go_enter Tryd.func30, Tryd.ntmps30
  go_wp2
  go_ret2
  exact ⟨rfl, rfl⟩

theorem square_any (va : Value) (X : List Nat) (w : World) (hA : Arg w va X) (hT : Tab w) (hf : X.length ≤ 17592186044415) :
    Calls Tryd.prog 34 #[va] w fun e w' => Below w.heap.size w w' ∧ Res w' w.heap.size e (val X * val X) := by
  have HP := mul_any va va X X w hA hA hT (by omega)
  clear hA hT
  go_enter Tryd.func34, Tryd.ntmps34
  go_wp2_with fail
  refine HP.mono ?_
  rintro e w2 ⟨hb, v, c, rs, rfl, hans, hres⟩
  have HR := hide (And.intro hb (And.intro hans hres))
  clear hb hans hres HP
  go_wp2
  go_ret2
  exact ⟨HR.out.1, v, c, rs, rfl, HR.out.2.1, HR.out.2.2⟩

end Go.Proofs.YtmloigbacfllhaaDoor
