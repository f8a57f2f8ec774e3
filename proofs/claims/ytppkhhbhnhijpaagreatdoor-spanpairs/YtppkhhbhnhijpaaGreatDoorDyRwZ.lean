/- Package dyadic: Round over numbers at one scale; what is answered for sure. -/
import Derived.Test.YtppkhhbhnhijpaaGreatDoorDyRpZ
import Derived.Test.YtppkhhbhnhijpaaGreatDoorDyTwZ
import Derived.Test.YtppkhhbhnhijpaaGreatDoorDyNZ
namespace Go.Proofs.YtppkhhbhnhijpaaGreatDoor
open Go.RowKit
open Lm

/-- A number that a call may answer. -/
def Ok8 (L : Nat) (V : Int) : Prop := ∃ M E, Rp L M E V ∧ Nr8 M E ∧ blen M.natAbs ≤ 67108864 ∧ fitE E = true

theorem G8.ok8 {w : World} {b : Bool} {a : Option Addr} {n k : Nat} {ex : Int} {L : Nat} {V : Int} (h : G8 w b a n k ex L V) : Ok8 L V := by
  obtain ⟨rs, _, hA, hl, hr, _, _, hn, hf⟩ := h
  refine ⟨_, _, hr, hn, ?_, hf⟩
  have := blen_len8 hA.limbs
  rw [zz_abs]; omega

/-- What is answered for sure. -/
def S8 (w : World) (e : Ending) (w' : World) (L : Nat) (V : Int) : Prop :=
  (∃ b a n k ex, e = .returned (.tuple #[.agg #[.bool b, .slice a n k, .int .i64 ex], .int .i64 0]) ∧ G8 w' b a n k ex L V) ∧ Below w.heap.size w w'

theorem DRes.s8 {w w' : World} {e : Ending} {base : Nat} {M E : Int} {L : Nat} {V : Int} (h : DRes w' base e M E) (hr : Rp L M E V) (hn : Nr8 M E) (ho : Ok8 L V) (hb : Below w.heap.size w w') : S8 w e w' L V := by
  obtain ⟨M', E', r', n', l', f'⟩ := ho
  obtain ⟨rfl, rfl⟩ := Rp.one hr r' hn n'
  obtain ⟨⟨b, a, n, k, ex, c, he, hp⟩, _⟩ := h.a8 hr hn hb
  obtain ⟨b2, a2, n2, k2, ex2, c2, he2, rs, hA, hc⟩ := h
  have hc2 : c2 = 0 := by
    rcases hc with ⟨h, _⟩ | ⟨_, _, _, _, _, h⟩ | ⟨_, _, _, _, _, _, h⟩
    · exact h
    · omega
    · rw [f'] at h; cases h
  rw [he2] at he
  have e9 : c = 0 := by
    simp only [Ending.returned.injEq, Value.tuple.injEq] at he
    have := congrArg (fun (x : Array Value) => x.toList) he
    simp at this
    omega
  subst e9
  exact ⟨⟨b, a, n, k, ex, by rw [he2, he], hp rfl⟩, hb⟩

theorem yround8 (b1 : Bool) (a1 : Option Addr) (n1 k1 : Nat) (ex1 : Int) (L : Nat) (V1 pos m : Int) (w : World) (hT : Tab w) (h1 : I8 w b1 a1 n1 k1 ex1 L V1) (hL : 4611686018427387904 ≤ L) (hK : fitE pos = true) (hM : isM m = true) :
    Calls Tryz.prog 123 #[.agg #[.bool b1, .slice a1 n1 k1, .int .i64 ex1], .int .i64 pos, .int .i64 m] w fun e w' => A8 w e w' L (rv m V1 (2 ^ (pos + L).toNat)) := by
  obtain ⟨X, rfl, hA, hf, hX⟩ := h1
  have hp := (fitE_iff pos).1 hK
  cases hE1 : fitE ex1
  · exact (yround_no b1 a1 _ k1 ex1 pos m w hE1).mono fun e w' h => h.1.a8 (by decide) h.2
  · exact (yround_ok b1 a1 k1 X ex1 pos m w hA hT (by omega) hE1 hK hM).mono fun e w' h => DRes.a8 h.1 (rnd_rv hX.norm (nr8_of _ _) (by omega) ((isM_iff m).1 hM)).norm (nr8_of _ _) h.2

theorem yround8s (b1 : Bool) (a1 : Option Addr) (n1 k1 : Nat) (ex1 : Int) (L : Nat) (V1 pos m : Int) (w : World) (hT : Tab w) (h1 : G8 w b1 a1 n1 k1 ex1 L V1) (hL : 4611686018427387904 ≤ L) (hK : fitE pos = true) (hM : isM m = true) (ho : Ok8 L (rv m V1 (2 ^ (pos + L).toNat))) :
    Calls Tryz.prog 123 #[.agg #[.bool b1, .slice a1 n1 k1, .int .i64 ex1], .int .i64 pos, .int .i64 m] w fun e w' => S8 w e w' L (rv m V1 (2 ^ (pos + L).toNat)) := by
  obtain ⟨X, rfl, hA, hf, hX, _, _, _, hE1⟩ := h1
  have hp := (fitE_iff pos).1 hK
  exact (yround_ok b1 a1 k1 X ex1 pos m w hA hT (by omega) hE1 hK hM).mono fun e w' h => DRes.s8 h.1 (rnd_rv hX.norm (nr8_of _ _) (by omega) ((isM_iff m).1 hM)).norm (nr8_of _ _) ho h.2

theorem ycmp8s (b1 : Bool) (a1 : Option Addr) (n1 k1 : Nat) (ex1 : Int) (b2 : Bool) (a2 : Option Addr) (n2 k2 : Nat) (ex2 : Int) (L : Nat) (V1 V2 : Int) (w : World) (hL : 4611686018427387904 ≤ L) (h1 : G8 w b1 a1 n1 k1 ex1 L V1) (h2 : G8 w b2 a2 n2 k2 ex2 L V2) :
    Calls Tryz.prog 94 #[.agg #[.bool b1, .slice a1 n1 k1, .int .i64 ex1], .agg #[.bool b2, .slice a2 n2 k2, .int .i64 ex2]] w fun e w' => e = .returned (.tuple #[.int .i64 (cmpZ V1 V2), .int .i64 0]) ∧ Below w.heap.size w w' := by
  obtain ⟨X, rfl, hA, hf, hX, _, _, _, hE1⟩ := h1
  obtain ⟨Y, rfl, hB, hg, hY, _, _, _, hE2⟩ := h2
  have hx := hX.1
  have hy := hY.1
  refine (yCompare_ok b1 a1 k1 X ex1 b2 a2 k2 Y ex2 L (ex1 + L).toNat (ex2 + L).toNat w hA hB (by omega) (by omega) hE1 hE2 hL (by omega) (by omega)).mono fun e w' h => ⟨?_, h.2⟩
  rw [h.1, hX.2, hY.2]

/-- The orders of two numbers, and of what they are rounded to. -/
theorem cmp_rv (m V1 V2 : Int) (P : Nat) (hP : 0 < P) : (cmpZ V1 V2 = -1 ∧ cmpZ (rv m V1 P) (rv m V2 P) = -1) ∨ (cmpZ V1 V2 = -1 ∧ cmpZ (rv m V1 P) (rv m V2 P) = 0) ∨ (cmpZ V1 V2 = 0 ∧ cmpZ (rv m V1 P) (rv m V2 P) = 0) ∨ (cmpZ V1 V2 = 1 ∧ cmpZ (rv m V1 P) (rv m V2 P) = 0) ∨ (cmpZ V1 V2 = 1 ∧ cmpZ (rv m V1 P) (rv m V2 P) = 1) := by
  rcases Int.lt_trichotomy V1 V2 with h | h | h
  · have := rv_mono m P hP (Int.le_of_lt h)
    unfold cmpZ
    rw [if_pos h]
    split
    · exact .inl ⟨rfl, rfl⟩
    · rw [if_neg (by omega)]; exact .inr (.inl ⟨rfl, rfl⟩)
  · subst h
    unfold cmpZ
    rw [if_neg (by omega), if_neg (by omega), if_neg (by omega), if_neg (by omega)]
    exact .inr (.inr (.inl ⟨rfl, rfl⟩))
  · have := rv_mono m P hP (Int.le_of_lt h)
    unfold cmpZ
    rw [if_neg (by omega), if_pos (by omega), if_neg (by omega)]
    split
    · exact .inr (.inr (.inr (.inr ⟨rfl, rfl⟩)))
    · exact .inr (.inr (.inr (.inl ⟨rfl, rfl⟩)))

end Go.Proofs.YtppkhhbhnhijpaaGreatDoor
