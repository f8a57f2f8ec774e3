/- Package mul: whole, of two numbers above 0. -/
import Derived.Test.YtmloigbacfllhaaDoorMulD
import Derived.Test.YtmloigbacfllhaaDoorTail
import Derived.Deep.RegionHeld3
namespace Go.Proofs.YtmloigbacfllhaaDoor
open Go.RowKit
open Lm

/-- A list of limbs that lies in another block. -/
def Aside (v : Value) (bz : Nat) : Prop := ∀ b off n c, v = .slice (some ⟨b, off, none⟩) n c → b ≠ bz

theorem Aside.off {v : Value} {bz : Nat} (h : Aside v bz) (lo hi : Nat) : Off v bz lo hi := fun b off n c e => .inl (h b off n c e)

/-- 'into' does what it should of these two lists, wherever they lie. -/
def IntoOk (H T : Int) (X Y : List Nat) : Prop :=
  ∀ (bz zo cap : Nat) (Z : List Nat) (va vb : Value) (w : World), Blk w bz Z → Limbs Z → Arg w va X → Arg w vb Y → Aside va bz → Aside vb bz →
    zo + (X.length + Y.length) ≤ Z.length → X.length + Y.length ≤ cap → cap ≤ 9223372036854775807 →
    Calls Tryd.prog 72 #[way H T, .slice (some ⟨bz, zo, none⟩) (X.length + Y.length) cap, va, vb] w (IntoDone bz zo (X.length + Y.length) Z w (val X * val Y))

theorem into_ok_school (H T : Int) (X Y : List Nat) (hs : (X.length < Y.length ∧ (X.length : Int) < H ∧ (X.length : Int) < T) ∨ (Y.length ≤ X.length ∧ (Y.length : Int) < H ∧ (Y.length : Int) < T)) : IntoOk H T X Y :=
  fun bz zo cap Z va vb w h1 h2 h3 h4 h5 h6 h7 h8 h9 => into_school H T bz zo cap Z va vb X Y w h1 h2 h3 h4 (h5.off _ _) (h6.off _ _) h7 h8 h9 hs

theorem Arg.drop {w : World} {b off n cap : Nat} {X : List Nat} (h : Arg w (.slice (some ⟨b, off, none⟩) n cap) X) (i : Nat) (hi : i ≤ n) : Arg w (.slice (some ⟨b, off + i, none⟩) (n - i) (cap - i)) (X.drop i) := by
  obtain ⟨ao, c, h1, h2, h3, h4⟩ := h.form
  cases h1
  have hl : (X.drop i).length = X.length - i := by simp
  refine ⟨⟨_, _, by rw [hl], by rw [hl]; omega, by omega, ?_⟩, fun z hz => h.limbs z (List.mem_of_mem_drop hz), by rw [hl]; have := h.few; omega, fun n c e => by cases e⟩
  rcases h4 with h4 | ⟨b', off', he, hc⟩
  · subst h4; exact .inl (by simp)
  · cases he
    refine .inr ⟨b, off + i, rfl, fun k hk => ?_⟩
    rw [hl] at hk
    rw [Nat.add_assoc, hc (i + k) (by omega)]
    simp [List.getD]

theorem low0_le (X : List Nat) : low0 X ≤ X.length := by
  induction X with
  | nil => simp [low0]
  | cons z r ih =>
    rw [low0]
    split
    · split
      · simp
      · simp; omega
    · simp

theorem low0_val (X : List Nat) : val X = 18446744073709551616 ^ low0 X * val (X.drop (low0 X)) := by
  induction X with
  | nil => simp [low0, val]
  | cons z r ih =>
    rw [low0]
    by_cases hz : z = 0
    · subst hz
      rw [if_pos rfl]
      by_cases hr : val r = 0
      · rw [if_pos hr]; simp
      · rw [if_neg hr, val, List.drop_succ_cons]
        conv => lhs; rw [ih]
        rw [Nat.pow_succ, Nat.zero_add]
        grind
    · rw [if_neg hz]; simp

theorem low0_lt (X : List Nat) (h : val X ≠ 0) : low0 X < X.length := by
  refine Nat.lt_of_not_le fun hle => h ?_
  rw [low0_val, List.drop_of_length_le hle]; simp [val]

theorem whole_val (Z : List Nat) (X Y : List Nat) (i j n : Nat) (hi : i ≤ X.length) (hj : j ≤ Y.length) (hn : n = X.length + Y.length) (h1 : val X = 18446744073709551616 ^ i * val (X.drop i)) (h2 : val Y = 18446744073709551616 ^ j * val (Y.drop j))
    (ho : Out (List.replicate n 0) Z (i + j) (i + j + (X.length - i + (Y.length - j)))) (hs : sv Z (i + j) (X.length - i + (Y.length - j)) = val (X.drop i) * val (Y.drop j)) : val Z = val X * val Y := by
  have hl : Z.length = n := by rw [ho.len]; simp
  have e0 : sv Z 0 (i + j) = 0 := by
    rw [ho.sv 0 (i + j) (by omega)]
    unfold sv seg
    rw [List.drop_replicate, List.take_replicate, val_replicate]
  have e1 : sv Z 0 (i + j + (X.length - i + (Y.length - j))) = val Z := by
    rw [show i + j + (X.length - i + (Y.length - j)) = Z.length by omega, sv_all]
  rw [sv_split _ _ _ _ (by omega), e0, Nat.zero_add, Nat.zero_add, hs] at e1
  rw [← e1, h1, h2, Nat.pow_add]
  have : ∀ a b c d : Nat, a * b * (c * d) = a * c * (b * d) := fun a b c d => by grind
  rw [this]

end Go.Proofs.YtmloigbacfllhaaDoor
