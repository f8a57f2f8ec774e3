/- Package mul: answer, product, Mul, of numbers above 0. -/
import Derived.Test.YtmloigbacfllhaaDoorMulF
import Derived.Handy
namespace Go.Proofs.YtmloigbacfllhaaDoor
open Go.RowKit
open Lm

theorem manswer_own (v : Value) (base : Nat) (xs : List Nat) (w : World) (h : Ans w base v xs) (hf : xs.length ≤ 1125899906842624) :
    Calls Tryd.prog 58 #[v] w fun e w' => w' = w ∧ Res w base e (val xs) := by
  have ha := h.arg hf
  obtain ⟨ao, cap, rfl, hcap, hmax, hlies⟩ := ha.form
  have hle := tr_length_le xs
  have H1 := mtrim_any _ cap xs w hcap hmax hlies
  have H2 := length_val _ _ _ ha
  have HA : Hid (Ans w base (.slice ao (tr xs).length cap) (tr xs)) := h.trim
  have HT : Hid (tr (tr xs) = tr xs ∧ val (tr xs) = val xs) := ⟨tr_tr xs, val_tr xs⟩
  unfold Res
  generalize tr xs = T at *
  generalize val xs = V at *
  generalize blen V = y at *
  clear hlies h ha
  by_cases hy : y ≤ 67108864
  · go_enter Tryd.func58, Tryd.ntmps58
    go_wp2_with fail
    refine H2.mono ?_
    rintro e w' ⟨rfl, rfl⟩
    go_wp2_with fail
    refine H1.mono ?_
    rintro e w' ⟨rfl, rfl⟩
    go_wp2
    go_ret2
    exact ⟨rfl, _, _, T, rfl, HA.out, .inl ⟨rfl, HT.out.2, HT.out.1, hy⟩⟩
  · go_enter Tryd.func58, Tryd.ntmps58
    go_wp2_with fail
    refine H2.mono ?_
    rintro e w' ⟨rfl, rfl⟩
    go_wp2
    go_ret2
    exact ⟨rfl, _, _, [], rfl, Ans.nil _ _, .inr ⟨rfl, rfl, by omega⟩⟩

theorem blen_pow_le (x : Nat) (h : x ≠ 0) : 2 ^ (blen x - 1) ≤ x := by
  refine Nat.le_of_not_lt fun hlt => ?_
  have h1 := (blen_le_iff x (blen x - 1)).2 hlt
  have h2 : blen x ≠ 0 := by unfold blen; rw [if_neg h]; omega
  omega

theorem least_le (x y : Nat) : least x y ≤ blen (x * y) := by
  unfold least
  split
  · omega
  · rename_i h
    have hx : x ≠ 0 := fun e => h (.inl e)
    have hy : y ≠ 0 := fun e => h (.inr e)
    have bx : blen x ≠ 0 := by unfold blen; rw [if_neg hx]; omega
    have by' : blen y ≠ 0 := by unfold blen; rw [if_neg hy]; omega
    refine Nat.le_of_not_lt fun hlt => ?_
    have h1 : blen (x * y) ≤ (blen x - 1) + (blen y - 1) := by omega
    rw [blen_le_iff, Nat.pow_add] at h1
    have := Nat.mul_le_mul (blen_pow_le x hx) (blen_pow_le y hy)
    omega

set_option maxHeartbeats 400000 in
theorem product_pos (H T : Int) (va vb : Value) (X Y : List Nat) (w : World) (hA : Arg w va X) (hA2 : Arg w vb Y) (hT : Tab w) (hX : val X ≠ 0) (hY : val Y ≠ 0) (hf : X.length + Y.length ≤ 35184372088831)
    (hI : IntoOk H T ((tr X).drop (low0 (tr X))) ((tr Y).drop (low0 (tr Y)))) :
    Calls Tryd.prog 55 #[way H T, va, vb] w fun e w' => Below w.heap.size w w' ∧ Res w' w.heap.size e (val X * val Y) := by
  obtain ⟨w1, hw1⟩ : ∃ w1, w1 = w.alloc (.cells #[.int .i64 H, .int .i64 T] 73) := ⟨_, rfl⟩
  have hbel1 : Below w.heap.size w w1 := by rw [hw1]; exact (Below.refl _ _).alloc (Nat.le_refl _) _
  have hb1 : w1.heap[w.heap.size]? = some (.cells #[.int .i64 H, .int .i64 T] 73) := by rw [hw1]; exact heap_alloc_new ..
  have hc0 : w1.cell? ⟨w.heap.size, 0, none⟩ = some (.int .i64 H) := by simp [World.cell?, hb1]
  have hc1 : w1.cell? ⟨w.heap.size, 1, none⟩ = some (.int .i64 T) := by simp [World.cell?, hb1]
  have H1 := leastLength_any va vb X Y w1 (hA.below hbel1) (hA2.below hbel1) (by omega) (by omega)
  have H2 := whole_pos H T va vb X Y w1 (hA.below hbel1) (hA2.below hbel1) (hT.below hbel1) hX hY hf hI
  have hle := least_le (val X) (val Y)
  have B1 := hide hbel1
  have HW1 := hide hw1
  clear hA hA2 hT hX hY hI hw1 hbel1 hb1
  unfold way at *
  generalize val X * val Y = p at *
  by_cases hbig : least (val X) (val Y) ≤ 67108864
  · generalize least (val X) (val Y) = l at *
    go_enter Tryd.func55, Tryd.ntmps55
    go_wp2_with fail
    rw [← HW1.out]
    refine H1.mono ?_
    rintro e w2 ⟨rfl, hw⟩; subst hw
    clear H1 HW1
    go_wp2_with fail
    refine H2.mono ?_
    rintro e w3 ⟨⟨v, rs, rfl, hans, hv, ht, hl⟩, hb⟩
    have HR := manswer_own v w.heap.size rs w3 (hans.base B1.out.size) (by omega)
    rw [hv] at HR
    have B3 : Hid (Below w.heap.size w w3) := B1.out.trans (hb.mono B1.out.size)
    clear H2 hans hv ht hb hc0 hc1
    go_wp2_with fail
    refine HR.mono ?_
    rintro e w4 ⟨hw, hres⟩; subst hw
    unfold Res at hres
    obtain ⟨v, c, rs, rfl, hres⟩ := hres
    have HX := hide hres
    clear hres HR
    go_wp2
    go_ret2
    exact ⟨B3.out, v, c, rs, rfl, HX.out⟩
  · have HP : Hid (67108864 < blen p) := hide (by omega)
    clear hle
    generalize least (val X) (val Y) = l at *
    go_enter Tryd.func55, Tryd.ntmps55
    go_wp2_with fail
    rw [← HW1.out]
    refine H1.mono ?_
    rintro e w2 ⟨rfl, hw⟩; subst hw
    clear H1 HW1 H2
    go_wp2
    go_ret2
    exact ⟨B1.out, _, _, [], rfl, Ans.nil _ _, .inr ⟨rfl, rfl, HP.out⟩⟩

theorem quick_any (w : World) : Calls Tryd.prog 54 #[] w fun e w' => e = .returned (way 40 200) ∧ Below w.heap.size w w' := by
  go_enter Tryd.func54, Tryd.ntmps54
  go_wp2
  go_returns
  exact ⟨rfl, (Below.refl _ _).alloc (Nat.le_refl _) _⟩

theorem mul_pos (va vb : Value) (X Y : List Nat) (w : World) (hA : Arg w va X) (hA2 : Arg w vb Y) (hT : Tab w) (hX : val X ≠ 0) (hY : val Y ≠ 0) (hf : X.length + Y.length ≤ 35184372088831)
    (hI : IntoOk 40 200 ((tr X).drop (low0 (tr X))) ((tr Y).drop (low0 (tr Y)))) :
    Calls Tryd.prog 28 #[va, vb] w fun e w' => Below w.heap.size w w' ∧ Res w' w.heap.size e (val X * val Y) := by
  have HQ := quick_any w
  go_enter Tryd.func28, Tryd.ntmps28
  go_wp2_with fail
  refine HQ.mono ?_
  rintro e w1 ⟨rfl, hb⟩
  have B1 := hide hb
  have HP := product_pos 40 200 va vb X Y w1 (hA.below hb) (hA2.below hb) (hT.below hb) hX hY hf hI
  generalize way 40 200 = W at *
  clear hb HQ hA hA2 hT hX hY hI
  go_wp2_with fail
  refine HP.mono ?_
  rintro e w2 ⟨hb, v, c, rs, rfl, hans, hres⟩
  have HR := hide (And.intro (B1.out.trans (hb.mono B1.out.size)) (And.intro (hans.base B1.out.size) hres))
  clear hb hans hres HP
  go_wp2
  go_ret2
  exact ⟨HR.out.1, v, c, rs, rfl, HR.out.2.1, HR.out.2.2⟩

end Go.Proofs.YtmloigbacfllhaaDoor
