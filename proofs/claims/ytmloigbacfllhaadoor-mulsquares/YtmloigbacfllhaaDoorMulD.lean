/- Package mul: into, where school's way is taken. -/
import Derived.Test.YtmloigbacfllhaaDoorMulC
namespace Go.Proofs.YtmloigbacfllhaaDoor
open Go.RowKit
open Lm

/-- A way to multiply. -/
def way (H T : Int) : Value := .agg #[.int .i64 H, .int .i64 T]

/-- What 'into' does. -/
def IntoDone (bz zo n : Nat) (Z : List Nat) (w : World) (p : Nat) (e : Ending) (w' : World) : Prop :=
  e = .returned (.tuple #[]) ∧ ∃ Z' : List Nat, Out Z Z' zo (zo + n) ∧ Limbs Z' ∧ Blk w' bz Z' ∧ Fr bz w w' ∧ sv Z' zo n = p

theorem IntoDone.after {bz zo n : Nat} {Z : List Nat} {w w1 : World} {p : Nat} {e : Ending} {w' : World} (h : IntoDone bz zo n Z w1 p e w') (hf : Fr bz w w1) : IntoDone bz zo n Z w p e w' := by
  obtain ⟨he, Z', h1, h2, h3, h4, h5⟩ := h
  exact ⟨he, Z', h1, h2, h3, hf.trans h4, h5⟩

theorem Blk.alloc {w : World} {b : Nat} {xs : List Nat} (h : Blk w b xs) (o : Obj) : Blk (w.alloc o) b xs := by
  unfold Blk
  rw [Below.heap_alloc w o b h.lt]; exact h

theorem Fr.alloc (bz : Nat) (w : World) (o : Obj) : Fr bz w (w.alloc o) := Fr.of_below ((Below.refl _ _).alloc (Nat.le_refl _) o)

theorem Arg.more {w : World} {v : Value} {zs : List Nat} (h : Arg w v zs) (o : Obj) : Arg (w.alloc o) v zs := h.below ((Below.refl _ _).alloc (Nat.le_refl _) _)

theorem school_swap (bz zo cap : Nat) (Z : List Nat) (va vb : Value) (X Y : List Nat) (w : World) (hB : Blk w bz Z) (hLZ : Limbs Z) (hA : Arg w va X) (hA2 : Arg w vb Y)
    (ho : Off va bz zo (zo + (X.length + Y.length))) (ho2 : Off vb bz zo (zo + (X.length + Y.length))) (hzo : zo + (X.length + Y.length) ≤ Z.length) (hc1 : X.length + Y.length ≤ cap) (hc2 : cap ≤ 9223372036854775807) :
    Calls Tryd.prog 75 #[.slice (some ⟨bz, zo, none⟩) (X.length + Y.length) cap, vb, va] w (IntoDone bz zo (X.length + Y.length) Z w (val X * val Y)) := by
  rw [Nat.add_comm X.length, Nat.mul_comm (val X)]
  rw [Nat.add_comm X.length] at ho ho2 hzo hc1
  exact school_any bz zo cap Z vb va Y X w hB hLZ hA2 hA ho2 ho hzo hc1 hc2

set_option maxHeartbeats 800000 in
theorem into_school (H T : Int) (bz zo cap : Nat) (Z : List Nat) (va vb : Value) (X Y : List Nat) (w : World) (hB : Blk w bz Z) (hLZ : Limbs Z) (hA : Arg w va X) (hA2 : Arg w vb Y)
    (ho : Off va bz zo (zo + (X.length + Y.length))) (ho2 : Off vb bz zo (zo + (X.length + Y.length))) (hzo : zo + (X.length + Y.length) ≤ Z.length) (hc1 : X.length + Y.length ≤ cap) (hc2 : cap ≤ 9223372036854775807)
    (hs : (X.length < Y.length ∧ (X.length : Int) < H ∧ (X.length : Int) < T) ∨ (Y.length ≤ X.length ∧ (Y.length : Int) < H ∧ (Y.length : Int) < T)) :
    Calls Tryd.prog 72 #[way H T, .slice (some ⟨bz, zo, none⟩) (X.length + Y.length) cap, va, vb] w (IntoDone bz zo (X.length + Y.length) Z w (val X * val Y)) := by
  unfold way
  obtain ⟨a1, c1, rfl, hcc1, hcm1, _⟩ := hA.form
  obtain ⟨a2, c2, rfl, hcc2, hcm2, _⟩ := hA2.form
  have fX := hA.few
  have fY := hA2.few
  rcases hs with ⟨h1, h2, h3⟩ | ⟨h1, h2, h3⟩
  · have i1 : (X.length : Int) < (Y.length : Int) := by omega
    go_enter Tryd.func72, Tryd.ntmps72
    go_wp2_with fail
    refine (school_swap bz zo cap Z _ _ X Y _ (hB.alloc _) hLZ (hA.more _) (hA2.more _) ho ho2 hzo hc1 hc2).mono ?_
    rintro e w2 hd
    have HD := hide (hd.after (Fr.alloc bz w _))
    obtain ⟨he, _⟩ := hd
    subst he
    clear hA hA2 ho ho2 hB
    go_wp2
    go_end0
    exact HD.out
  · have hd0 : decide ((X.length : Int) < (Y.length : Int)) = false := decide_eq_false (by omega)
    go_enter Tryd.func72, Tryd.ntmps72
    go_wp2_with fail
    refine (school_any bz zo cap Z _ _ X Y _ (hB.alloc _) hLZ (hA.more _) (hA2.more _) ho ho2 hzo hc1 hc2).mono ?_
    rintro e w2 hd
    have HD := hide (IntoDone.after hd (Fr.alloc bz w _))
    obtain ⟨he, _⟩ := hd
    subst he
    clear hA hA2 ho ho2 hB
    go_wp2
    go_end0
    exact HD.out

/-- How many bits the product has at the least. -/
def least (x y : Nat) : Nat := if x = 0 ∨ y = 0 then 0 else blen x + blen y - 1

theorem leastLength_any (va vb : Value) (X Y : List Nat) (w : World) (hA : Arg w va X) (hA2 : Arg w vb Y) (fX : X.length ≤ 35184372088831) (fY : Y.length ≤ 35184372088831) :
    Calls Tryd.prog 66 #[va, vb] w fun e w' => e = .returned (.int .i64 ((least (val X) (val Y) : Nat) : Int)) ∧ w' = w := by
  have H1 := length_val va X w hA
  have H2 := length_val vb Y w hA2
  have b1 : blen (val X) ≤ 64 * X.length := by
    rw [blen_le_iff, Nat.mul_comm]; have := val_lt hA.limbs; rwa [W_pow] at this
  have b2 : blen (val Y) ≤ 64 * Y.length := by
    rw [blen_le_iff, Nat.mul_comm]; have := val_lt hA2.limbs; rwa [W_pow] at this
  have z1 : blen (val X) = 0 ↔ val X = 0 := by
    unfold blen; split <;> simp [*]
  have z2 : blen (val Y) = 0 ↔ val Y = 0 := by
    unfold blen; split <;> simp [*]
  have hL : least (val X) (val Y) = if blen (val X) = 0 ∨ blen (val Y) = 0 then 0 else blen (val X) + blen (val Y) - 1 := by
    unfold least; simp only [z1, z2]
  rw [hL]
  clear hA hA2 z1 z2 hL
  generalize blen (val X) = x at *
  generalize blen (val Y) = y at *
  by_cases hx : x = 0
  · subst hx
    rw [if_pos (.inl rfl)]
    go_enter Tryd.func66, Tryd.ntmps66
    go_wp2_with fail
    refine H1.mono ?_
    rintro e w2 ⟨rfl, rfl⟩
    go_wp2_with fail
    refine H2.mono ?_
    rintro e w3 ⟨rfl, rfl⟩
    clear H1 H2
    go_wp2
    go_ret
    exact ⟨rfl, rfl⟩
  · have d1 : ((x : Int) == 0) = false := by rw [beq_eq_false_iff_ne]; omega
    by_cases hy : y = 0
    · subst hy
      rw [if_pos (.inr rfl)]
      go_enter Tryd.func66, Tryd.ntmps66
      go_wp2_with fail
      refine H1.mono ?_
      rintro e w2 ⟨rfl, rfl⟩
      go_wp2_with fail
      refine H2.mono ?_
      rintro e w3 ⟨rfl, rfl⟩
      clear H1 H2
      go_wp2
      go_ret
      exact ⟨rfl, rfl⟩
    · have d2 : ((y : Int) == 0) = false := by rw [beq_eq_false_iff_ne]; omega
      rw [if_neg (by omega)]
      have e1 : (x : Int) + (y : Int) - 1 = ((x + y - 1 : Nat) : Int) := by omega
      generalize x + y - 1 = t at *
      go_enter Tryd.func66, Tryd.ntmps66
      go_wp2_with fail
      refine H1.mono ?_
      rintro e w2 ⟨rfl, rfl⟩
      go_wp2_with fail
      refine H2.mono ?_
      rintro e w3 ⟨rfl, rfl⟩
      clear H1 H2
      go_wp2
      go_ret
      exact ⟨rfl, rfl⟩

end Go.Proofs.YtmloigbacfllhaaDoor
