/- The document's products, and what the laws of package mul ask of an answer. -/
import Derived.Test.YtlphlcmlkibmjaaDoorQK
import Derived.Test.YtlphlcmlkibmjaaDoorQG
namespace Go.Proofs.YtlphlcmlkibmjaaDoor
open Go.RowKit
open Lm

/-- A number of the reference, or ErrBig. -/
def ResN (w : World) (e : Ending) (s : Nat) : Prop :=
  ∃ v c, e = .returned (.tuple #[v, .int .i64 c]) ∧ ((c = 0 ∧ Num w v s ∧ blen s ≤ 67108864) ∨ (c = 3 ∧ v = .slice none 0 0 ∧ 67108864 < blen s))

theorem told_any (v : Value) (x : Nat) (w : World) (h : Num w v x) : Calls Tryd.prog 65 #[v] w fun e w' => w' = w ∧ ResN w e x := by
  have H := len_any v x w h
  have HN := hide h
  unfold ResN
  clear h
  generalize blen x = y at *
  by_cases hy : y ≤ 67108864
  · have hd : decide ((67108864 : Int) < (y : Int)) = false := decide_eq_false (by omega)
    go_enter Tryd.func65, Tryd.ntmps65
    go_wp2_with fail
    refine H.mono ?_
    rintro e w1 ⟨rfl, hw⟩; subst hw
    clear H
    go_wp2
    go_ret2
    exact ⟨rfl, _, _, rfl, .inl ⟨rfl, HN.out, hy⟩⟩
  · have hd : (67108864 : Int) < (y : Int) := by omega
    go_enter Tryd.func65, Tryd.ntmps65
    go_wp2_with fail
    refine H.mono ?_
    rintro e w1 ⟨rfl, hw⟩; subst hw
    clear H
    go_wp2
    go_ret2
    exact ⟨rfl, _, _, rfl, .inr ⟨rfl, rfl, by omega⟩⟩

set_option maxHeartbeats 400000 in
theorem rmul2_any (v1 v2 : Value) (x y : Nat) (w : World) (h1 : Num w v1 x) (h2 : Num w v2 y) (hx : blen x ≤ 1125899906809856) (hy : blen y ≤ 1125899906809856) :
    Calls Tryd.prog 39 #[v1, v2] w fun e w' => Below w.heap.size w w' ∧ ResN w' e (x * y) := by
  have HZ1 := zero_any v1 x w h1
  have HZ2 := zero_any v2 y w h2
  have HL1 := len_any v1 x w h1
  have HL2 := len_any v2 y w h2
  have hle := least_le x y
  have zb : ∀ z : Nat, z = 0 → blen z = 0 := fun z e => by subst e; rfl
  by_cases h0 : x = 0
  · have e0 : (x == 0) = true := by simpa using h0
    have HM := rmul_any v1 v2 x y w h1 h2 (by have := zb x h0; omega)
    clear h1 h2 h0 hle zb HL1 HL2 HZ2
    go_enter Tryd.func39, Tryd.ntmps39
    go_wp2_with fail
    refine HZ1.mono ?_
    rintro e w1 ⟨rfl, hw⟩; subst hw
    clear HZ1
    go_wp2_with fail
    refine HM.mono ?_
    rintro e w3 ⟨⟨vn, rfl, Nn⟩, hb⟩
    have HB := hide hb
    have HT := told_any vn _ w3 Nn
    clear hb HM Nn
    go_wp2_with fail
    refine HT.mono ?_
    rintro e w4 ⟨hw, v, c, rfl, hres⟩; subst hw
    have HR := hide hres
    clear hres HT
    go_wp2
    go_ret2
    exact ⟨HB.out, v, c, rfl, HR.out⟩
  · have e0 : (x == 0) = false := by simpa using h0
    by_cases h0' : y = 0
    · have e1 : (y == 0) = true := by simpa using h0'
      have HM := rmul_any v1 v2 x y w h1 h2 (by have := zb y h0'; omega)
      clear h1 h2 h0 h0' hle zb HL1 HL2
      go_enter Tryd.func39, Tryd.ntmps39
      go_wp2_with fail
      refine HZ1.mono ?_
      rintro e w1 ⟨rfl, hw⟩; subst hw
      clear HZ1
      go_wp2_with fail
      refine HZ2.mono ?_
      rintro e w2 ⟨rfl, hw⟩; subst hw
      clear HZ2
      go_wp2_with fail
      refine HM.mono ?_
      rintro e w3 ⟨⟨vn, rfl, Nn⟩, hb⟩
      have HB := hide hb
      have HT := told_any vn _ w3 Nn
      clear hb HM Nn
      go_wp2_with fail
      refine HT.mono ?_
      rintro e w4 ⟨hw, v, c, rfl, hres⟩; subst hw
      have HR := hide hres
      clear hres HT
      go_wp2
      go_ret2
      exact ⟨HB.out, v, c, rfl, HR.out⟩
    · have e1 : (y == 0) = false := by simpa using h0'
      have el : least x y = blen x + blen y - 1 := by unfold least; rw [if_neg (by omega)]
      have bx : blen x ≠ 0 := by unfold blen; rw [if_neg h0]; omega
      rw [el] at hle
      by_cases hb : blen x + blen y - 1 ≤ 67108864
      · have HM := rmul_any v1 v2 x y w h1 h2 (by omega)
        clear h1 h2 h0 h0' hle zb el
        generalize blen x = p at *
        generalize blen y = q at *
        obtain ⟨t, et⟩ : ∃ t : Nat, (p : Int) + (q : Int) - 1 = (t : Int) := ⟨p + q - 1, by omega⟩
        have hd : decide ((67108864 : Int) < (t : Int)) = false := decide_eq_false (by omega)
        go_enter Tryd.func39, Tryd.ntmps39
        go_wp2_with fail
        refine HZ1.mono ?_
        rintro e w1 ⟨rfl, hw⟩; subst hw
        clear HZ1
        go_wp2_with fail
        refine HZ2.mono ?_
        rintro e w2 ⟨rfl, hw⟩; subst hw
        clear HZ2
        go_wp2_with fail
        refine HL1.mono ?_
        rintro e w2 ⟨rfl, hw⟩; subst hw
        clear HL1
        go_wp2_with fail
        refine HL2.mono ?_
        rintro e w2 ⟨rfl, hw⟩; subst hw
        clear HL2
        go_wp2_with fail
        refine HM.mono ?_
        rintro e w3 ⟨⟨vn, rfl, Nn⟩, hb⟩
        have HB := hide hb
        have HT := told_any vn _ w3 Nn
        clear hb HM Nn
        go_wp2_with fail
        refine HT.mono ?_
        rintro e w4 ⟨hw, v, c, rfl, hres⟩; subst hw
        have HR := hide hres
        clear hres HT
        go_wp2
        go_ret2
        exact ⟨HB.out, v, c, rfl, HR.out⟩
      · have HP : Hid (67108864 < blen (x * y)) := hide (by omega)
        unfold ResN
        clear h1 h2 h0 h0' hle zb el
        generalize blen x = p at *
        generalize blen y = q at *
        obtain ⟨t, et⟩ : ∃ t : Nat, (p : Int) + (q : Int) - 1 = (t : Int) := ⟨p + q - 1, by omega⟩
        have hd : (67108864 : Int) < (t : Int) := by omega
        go_enter Tryd.func39, Tryd.ntmps39
        go_wp2_with fail
        refine HZ1.mono ?_
        rintro e w1 ⟨rfl, hw⟩; subst hw
        clear HZ1
        go_wp2_with fail
        refine HZ2.mono ?_
        rintro e w2 ⟨rfl, hw⟩; subst hw
        clear HZ2
        go_wp2_with fail
        refine HL1.mono ?_
        rintro e w2 ⟨rfl, hw⟩; subst hw
        clear HL1
        go_wp2_with fail
        refine HL2.mono ?_
        rintro e w2 ⟨rfl, hw⟩; subst hw
        clear HL2
        go_wp2
        go_ret2
        exact ⟨Below.refl _ _, _, _, rfl, .inr ⟨rfl, rfl, HP.out⟩⟩

/-- An answer that is an error, and should be. -/
theorem alike_err (ao : Option Addr) (cap : Nat) (vn : Value) (c : Int) (w : World) (hc : c ≠ 0) :
    Calls Tryd.prog 12 #[.slice ao 0 cap, .int .i64 c, vn, .int .i64 c] w fun e w' => e = .returned (.bool true) ∧ w' = w := by
  have hd : (c == 0) = false := by rw [beq_eq_false_iff_ne]; exact hc
  have HN := num_any c w
  clear hc
  go_enter Tryd.func12, Tryd.ntmps12
  go_wp2_with fail
  refine HN.mono ?_
  rintro e w2 ⟨rfl, hw⟩; subst hw
  clear HN
  go_wp2
  go_ret
  exact ⟨rfl, rfl⟩

/-- An answer that is the number. -/
theorem alike_val (va vn : Value) (rs : List Nat) (s : Nat) (w : World) (hA : Arg w va rs) (hn : Num w vn s) (hv : val rs = s) (ht : tr rs = rs) (hs : blen s ≤ 1125899906842624) :
    Calls Tryd.prog 12 #[va, .int .i64 0, vn, .int .i64 0] w fun e w' => e = .returned (.bool true) ∧ Below w.heap.size w w' := by
  have HI := is_true vn va s rs w hn hA ht hv hs
  have HN := num_any 0 w
  clear hA hn hv ht hs
  go_enter Tryd.func12, Tryd.ntmps12
  go_wp2_with fail
  refine HN.mono ?_
  rintro e w2 ⟨rfl, hw⟩; subst hw
  clear HN
  go_wp2_with fail
  refine HI.mono ?_
  rintro e w3 ⟨rfl, hb⟩
  have HB := hide hb
  clear hb HI
  go_wp2
  go_ret
  exact ⟨rfl, HB.out⟩

theorem alike_ok (va vn : Value) (c f : Int) (rs : List Nat) (s base : Nat) (w : World) (hA : Ans w base va rs) (hl : rs.length ≤ 1048576) (h : (c = 0 ∧ val rs = s ∧ tr rs = rs ∧ blen s ≤ 67108864) ∨ (c = 3 ∧ rs = [] ∧ 67108864 < blen s)) (hn : (f = 0 ∧ Num w vn s ∧ blen s ≤ 67108864) ∨ (f = 3 ∧ vn = .slice none 0 0 ∧ 67108864 < blen s)) :
    Calls Tryd.prog 12 #[va, .int .i64 c, vn, .int .i64 f] w fun e w' => e = .returned (.bool true) ∧ Below w.heap.size w w' := by
  rcases h with ⟨rfl, hv, ht, hs⟩ | ⟨rfl, rfl, hs⟩
  · rcases hn with ⟨rfl, hn, _⟩ | ⟨_, _, h⟩
    · exact alike_val va vn rs s w (hA.arg (by omega)) hn hv ht (by omega)
    · omega
  · rcases hn with ⟨_, _, h⟩ | ⟨rfl, _, _⟩
    · omega
    · obtain ⟨ao, cap, rfl, _⟩ := (hA.arg (by simp)).form
      refine (alike_err ao cap vn 3 w (by omega)).mono ?_
      rintro e w2 ⟨rfl, hw⟩; subst hw
      exact ⟨rfl, Below.refl _ _⟩

end Go.Proofs.YtlphlcmlkibmjaaDoor
