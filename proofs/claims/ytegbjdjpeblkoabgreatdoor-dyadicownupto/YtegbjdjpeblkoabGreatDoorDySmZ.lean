/- Package dyadic: sums and products of what means something; an answer held against the document's. -/
import Derived.Test.YtegbjdjpeblkoabGreatDoorDyYZ
import Derived.Test.YtegbjdjpeblkoabGreatDoorDyV3Z
import Derived.Test.YtegbjdjpeblkoabGreatDoorDyXZ
import Derived.Test.YtegbjdjpeblkoabGreatDoorDyNgZ
import Derived.Test.YtegbjdjpeblkoabGreatDoorDyRsZ
import Derived.Test.YtegbjdjpeblkoabGreatDoorDyTZ
import Derived.Test.YtegbjdjpeblkoabGreatDoorBxAZ
namespace Go.Proofs.YtegbjdjpeblkoabGreatDoor
open Go.RowKit
open Lm

theorem ymul_full (b1 : Bool) (a1 : Option Addr) (k1 : Nat) (X : List Nat) (ex1 : Int) (b2 : Bool) (a2 : Option Addr) (k2 : Nat) (Y : List Nat) (ex2 : Int) (w : World) (hT : Tab w) (hA : Arg w (.slice a1 X.length k1) X) (hB : Arg w (.slice a2 Y.length k2) Y) (hf : X.length ≤ 17592186043904) (hg : Y.length ≤ 17592186043904) (hE1 : fitE ex1 = true) (hE2 : fitE ex2 = true) :
    Calls Tryz.prog 9 #[.agg #[.bool b1, .slice a1 X.length k1, .int .i64 ex1], .agg #[.bool b2, .slice a2 Y.length k2, .int .i64 ex2]] w fun e w' => DRes w' w.heap.size e (omz (omz (zz b1 (val X)) * omz (zz b2 (val Y)))) (oe (omz (zz b1 (val X)) * omz (zz b2 (val Y))) (oe (zz b1 (val X)) ex1 + oe (zz b2 (val Y)) ex2)) ∧ Below w.heap.size w w' := by
  have F1 := read_facts (b := b1) (ex := ex1) hA hf hE1
  have F2 := read_facts (b := b2) (ex := ex2) hB hg hE2
  exact ymul_res b1 a1 _ k1 ex1 b2 a2 _ k2 ex2 _ _ w (fun W hg' => yjt_ok b1 a1 k1 X ex1 b2 a2 k2 Y ex2 _ _ W (hT.below hg') (hA.below hg') (hB.below hg') hf hg hE1 hE2 (fun W2 b3 a3 c3 X3 b4 a4 c4 X4 t3 m3 m4 l3 l4 => ytimes_any b3 a3 c3 X3 _ _ b4 a4 c4 X4 _ _ W2 t3 m3 m4 F1.2.2.2 F2.2.2.2 l3 l4 F1.2.1 F2.2.2.1 F2.2.1 F1.2.2.1))

/-- What the document says of M times 2^E: the number, or an error. -/
def Says (w : World) (b : Bool) (v : Value) (E' f M E : Int) : Prop :=
  (f = 0 ∧ Dn w b v M ∧ E' = E) ∨ (f = 3 ∧ 67108864 < blen M.natAbs) ∨ (f = 80 ∧ blen M.natAbs ≤ 67108864 ∧ fitE E = false)

theorem Says.below {w w' : World} {b : Bool} {v : Value} {E' f M E : Int} (h : Says w b v E' f M E) (hb : Below w.heap.size w w') : Says w' b v E' f M E := by
  rcases h with ⟨h1, h2, h3⟩ | h | h
  · exact .inl ⟨h1, h2.below hb, h3⟩
  · exact .inr (.inl h)
  · exact .inr (.inr h)

theorem alike8_says (b : Bool) (a : Option Addr) (n c : Nat) (ex r : Int) (b2 : Bool) (a2 : Option Addr) (n2 c2 : Nat) (E' f M E : Int) (base : Nat) (w : World) (hD : DR w base b (.slice a n c) ex r M E) (h : Says w b2 (.slice a2 n2 c2) E' f M E) :
    Calls Tryz.prog 14 #[.agg #[.bool b, .slice a n c, .int .i64 ex], .int .i64 r, .agg #[.bool b2, .slice a2 n2 c2, .int .i64 E'], .int .i64 f] w fun e w' => e = .returned (.bool true) ∧ Below w.heap.size w w' := by
  rcases h with ⟨rfl, h2, rfl⟩ | ⟨rfl, h2⟩ | ⟨rfl, h2, h3⟩
  · exact alike8_ok b a n c ex r b2 a2 n2 c2 M E' base w hD h2
  · obtain ⟨rs, hA, h⟩ := hD
    rcases h with ⟨_, _, _, _, _, h, _⟩ | ⟨rfl, rfl, h4, rfl, _, _⟩ | ⟨_, _, _, _, _, h, _⟩
    · omega
    · rw [h4]; exact alike8_bad 3 b2 a2 n2 c2 E' w (by decide)
    · omega
  · obtain ⟨rs, hA, h⟩ := hD
    rcases h with ⟨_, _, _, _, _, _, h⟩ | ⟨_, _, _, _, _, h⟩ | ⟨rfl, rfl, h4, rfl, _, _, _⟩
    · rw [h3] at h; cases h
    · omega
    · rw [h4]; exact alike8_bad 80 b2 a2 n2 c2 E' w (by decide)

theorem DR.own9 {w : World} {base : Nat} {b : Bool} {va : Value} {ex c M E : Int} (h : DR w base b va ex c M E) : ∃ rs, Ans w base va rs ∧ rs.length ≤ 1048576 := by
  obtain ⟨rs, h1, h2 | h2 | h2⟩ := h
  · exact ⟨rs, h1, few_ofW h2.2.2.2.1 h2.2.2.1 (by have := h2.2.2.2.2.2.1; omega)⟩
  · exact ⟨rs, h1, by rw [h2.2.2.2.2.1]; simp⟩
  · exact ⟨rs, h1, by rw [h2.2.2.2.2.1]; simp⟩

theorem SumR.says {w w' : World} {M E : Int} {e : Ending} (h : SumR w M E e w') : (∃ b a n k E' f, e = .returned (.tuple #[.agg #[.bool b, .slice a n k, .int .i64 E'], .int .i64 f]) ∧ Says w' b (.slice a n k) E' f M E) ∧ Below w.heap.size w w' := by
  obtain ⟨⟨b, a, n, k, E', f, he, h⟩, hb⟩ := h
  refine ⟨⟨b, a, n, k, E', f, he, ?_⟩, hb⟩
  rcases h with ⟨h1, h2, h3, _⟩ | h | h
  · exact .inl ⟨h1, h2, h3⟩
  · exact .inr (.inl h)
  · exact .inr (.inr h)

theorem Nr8.neg {M E : Int} (h : Nr8 M E) : Nr8 (-M) E := by
  rcases h with ⟨h1, h2⟩ | h
  · exact .inl ⟨by omega, h2⟩
  · exact .inr (by omega)

theorem dn_zero (w : World) : Dn w false (.slice none 0 0) 0 := ⟨rfl, Num.nil8 w⟩

end Go.Proofs.YtegbjdjpeblkoabGreatDoor
