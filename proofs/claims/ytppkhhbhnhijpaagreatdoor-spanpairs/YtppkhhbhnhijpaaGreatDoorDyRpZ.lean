/- Package dyadic: the calls over numbers at one scale; those without sums. -/
import Derived.Test.YtppkhhbhnhijpaaGreatDoorQ9
import Derived.Test.YtppkhhbhnhijpaaGreatDoorDyJZ
import Derived.Test.YtppkhhbhnhijpaaGreatDoorDyCmZ
namespace Go.Proofs.YtppkhhbhnhijpaaGreatDoor
open Go.RowKit
open Lm

/-- A dyadic that was handed in: V, counted in 2^-L. -/
def I8 (w : World) (b : Bool) (a : Option Addr) (n k : Nat) (ex : Int) (L : Nat) (V : Int) : Prop :=
  ∃ rs : List Nat, n = rs.length ∧ Arg w (.slice a n k) rs ∧ rs.length ≤ 17592186043904 ∧ Rp L (zz b (val rs)) ex V

/-- A dyadic that was answered, normal. -/
def G8 (w : World) (b : Bool) (a : Option Addr) (n k : Nat) (ex : Int) (L : Nat) (V : Int) : Prop :=
  ∃ rs : List Nat, n = rs.length ∧ Arg w (.slice a n k) rs ∧ rs.length ≤ 1048576 ∧ Rp L (zz b (val rs)) ex V ∧ tr rs = rs ∧ b = decide (zz b (val rs) < 0) ∧ Nr8 (zz b (val rs)) ex ∧ fitE ex = true

/-- An answer with its code. -/
def P8 (w : World) (b : Bool) (a : Option Addr) (n k : Nat) (ex c : Int) (L : Nat) (V : Int) : Prop := c = 0 → G8 w b a n k ex L V

theorem I8.below {w w' : World} {b : Bool} {a : Option Addr} {n k : Nat} {ex : Int} {L : Nat} {V : Int} (h : I8 w b a n k ex L V) (hb : Below w.heap.size w w') : I8 w' b a n k ex L V := by
  obtain ⟨rs, h1, h2, h3⟩ := h
  exact ⟨rs, h1, h2.below hb, h3⟩

theorem G8.below {w w' : World} {b : Bool} {a : Option Addr} {n k : Nat} {ex : Int} {L : Nat} {V : Int} (h : G8 w b a n k ex L V) (hb : Below w.heap.size w w') : G8 w' b a n k ex L V := by
  obtain ⟨rs, h1, h2, h3⟩ := h
  exact ⟨rs, h1, h2.below hb, h3⟩

theorem P8.below {w w' : World} {b : Bool} {a : Option Addr} {n k : Nat} {ex c : Int} {L : Nat} {V : Int} (h : P8 w b a n k ex c L V) (hb : Below w.heap.size w w') : P8 w' b a n k ex c L V := fun e => (h e).below hb

theorem G8.inn {w : World} {b : Bool} {a : Option Addr} {n k : Nat} {ex : Int} {L : Nat} {V : Int} (h : G8 w b a n k ex L V) : I8 w b a n k ex L V := by
  obtain ⟨rs, h1, h2, h3, h4, _⟩ := h
  exact ⟨rs, h1, h2, by omega, h4⟩

/-- What the calls answer. -/
def A8 (w : World) (e : Ending) (w' : World) (L : Nat) (V : Int) : Prop :=
  (∃ b a n k ex c, e = .returned (.tuple #[.agg #[.bool b, .slice a n k, .int .i64 ex], .int .i64 c]) ∧ P8 w' b a n k ex c L V) ∧ Below w.heap.size w w'

theorem DErr.a8 {w w' : World} {e : Ending} {c : Int} {L : Nat} {V : Int} (h : DErr c e) (hc : c ≠ 0) (hb : Below w.heap.size w w') : A8 w e w' L V :=
  ⟨⟨_, _, _, _, _, _, h, fun e => absurd e hc⟩, hb⟩

theorem DRes.a8 {w w' : World} {e : Ending} {base : Nat} {M E : Int} {L : Nat} {V : Int} (h : DRes w' base e M E) (hr : Rp L M E V) (hn : Nr8 M E) (hb : Below w.heap.size w w') : A8 w e w' L V := by
  obtain ⟨b, a, n, k, ex, c, he, rs, hA, hc⟩ := h
  refine ⟨⟨b, a, n, k, ex, c, he, fun h0 => ?_⟩, hb⟩
  rcases hc with ⟨_, h2, h3, h4, h5, h6, h7⟩ | ⟨h, _⟩ | ⟨h, _⟩
  · have hz : zz b (val rs) = M := by rw [h2, h3]; exact zz_self M
    have hl : rs.length ≤ 1048576 := few_ofW h4 rfl (by rw [h3]; omega)
    have hR := hA.arg (by omega)
    obtain ⟨a', n', e1, _⟩ := hR.form
    have hn' : n = rs.length := by injection e1
    refine ⟨rs, hn', hR, hl, ?_, h4, ?_, ?_, ?_⟩
    · rw [hz, h5]; exact hr
    · rw [hz]; exact h2
    · rw [hz, h5]; exact hn
    · rw [h5]; exact h7
  · rw [h] at h0; exact absurd h0 (by decide)
  · rw [h] at h0; exact absurd h0 (by decide)

theorem ycmp8 (b1 : Bool) (a1 : Option Addr) (n1 k1 : Nat) (ex1 : Int) (b2 : Bool) (a2 : Option Addr) (n2 k2 : Nat) (ex2 : Int) (L : Nat) (V1 V2 : Int) (w : World) (hL : 4611686018427387904 ≤ L) (h1 : I8 w b1 a1 n1 k1 ex1 L V1) (h2 : I8 w b2 a2 n2 k2 ex2 L V2) :
    Calls Tryz.prog 94 #[.agg #[.bool b1, .slice a1 n1 k1, .int .i64 ex1], .agg #[.bool b2, .slice a2 n2 k2, .int .i64 ex2]] w fun e w' => (∃ k c, e = .returned (.tuple #[.int .i64 k, .int .i64 c]) ∧ (c = 0 → k = cmpZ V1 V2)) ∧ Below w.heap.size w w' := by
  obtain ⟨X, rfl, hA, hf, hX⟩ := h1
  obtain ⟨Y, rfl, hB, hg, hY⟩ := h2
  cases hE1 : fitE ex1
  · exact (yCompare_no1 b1 a1 _ k1 ex1 b2 a2 _ k2 ex2 w hE1).mono fun e w' h => ⟨⟨_, _, h.1, fun e => absurd e (by decide)⟩, h.2⟩
  · cases hE2 : fitE ex2
    · exact (yCompare_no2 b1 a1 k1 X ex1 b2 a2 _ k2 ex2 w hA hE1 hE2).mono fun e w' h => ⟨⟨_, _, h.1, fun e => absurd e (by decide)⟩, h.2⟩
    · have hx := hX.1
      have hy := hY.1
      refine (yCompare_ok b1 a1 k1 X ex1 b2 a2 k2 Y ex2 L (ex1 + L).toNat (ex2 + L).toNat w hA hB (by omega) (by omega) hE1 hE2 hL (by omega) (by omega)).mono fun e w' h => ⟨⟨_, _, h.1, fun _ => ?_⟩, h.2⟩
      rw [hX.2, hY.2]

theorem ysign8 (b1 : Bool) (a1 : Option Addr) (n1 k1 : Nat) (ex1 : Int) (L : Nat) (V1 : Int) (w : World) (h1 : I8 w b1 a1 n1 k1 ex1 L V1) :
    Calls Tryz.prog 95 #[.agg #[.bool b1, .slice a1 n1 k1, .int .i64 ex1]] w fun e w' => e = .returned (.int .i64 V1.sign) ∧ Below w.heap.size w w' := by
  obtain ⟨X, rfl, hA, hf, hX⟩ := h1
  have hs : sg b1 (val X) = V1.sign := by
    rw [sg_sign]
    have hp := hX.pos
    rcases Int.lt_trichotomy V1 0 with h | h | h
    · rw [Int.sign_eq_neg_one_of_neg h, Int.sign_eq_neg_one_of_neg (hp.1.1 h)]
    · rw [h, hp.2.1 h]
    · rw [Int.sign_eq_one_of_pos h, Int.sign_eq_one_of_pos]
      have a1 := hp.1
      have a2 := hp.2
      omega
  rw [← hs]
  exact ySign_any b1 a1 k1 X ex1 w hA

end Go.Proofs.YtppkhhbhnhijpaaGreatDoor
