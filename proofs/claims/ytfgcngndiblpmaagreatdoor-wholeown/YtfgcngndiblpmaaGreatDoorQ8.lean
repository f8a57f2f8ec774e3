/- Plain facts of the law WholeMakes. -/
import Derived.Test.YtfgcngndiblpmaaGreatDoorQ4
import Derived.Test.YtfgcngndiblpmaaGreatDoorQ5
import Derived.Test.YtfgcngndiblpmaaGreatDoorRefPZ
import Derived.Test.YtfgcngndiblpmaaGreatDoorQH
namespace Go.Proofs.YtfgcngndiblpmaaGreatDoor
open Go.RowKit
open Lm
attribute [local go_sem ↓] Go.wp_at_zero Go.wp_at_succ

theorem ZA.zr {w : World} {base : Nat} {b : Bool} {u : Value} {z : Int} (h : ZA w base b u z) (hb : blen z.natAbs ≤ 67108864) : ZR w base b u 0 z := by
  obtain ⟨rs, h1, h2, h3, h4⟩ := h
  exact ⟨rs, h1, .inl ⟨rfl, h2, h3, h4, hb⟩⟩

theorem ZR.few {rs : List Nat} {b : Bool} {va : Value} {c z : Int} (h : (c = 0 ∧ b = decide (z < 0) ∧ val rs = z.natAbs ∧ tr rs = rs ∧ blen z.natAbs ≤ 67108864) ∨ (c = 3 ∧ b = false ∧ va = .slice none 0 0 ∧ rs = [] ∧ 67108864 < blen z.natAbs)) : rs.length ≤ 1048576 := by
  rcases h with ⟨_, _, h3, h4, h5⟩ | ⟨_, _, _, h4, _⟩
  · exact few_ofW h4 h3 (by omega)
  · rw [h4]; simp

theorem Zn.inv {w : World} {b : Bool} {u : Value} {z : Int} (h : Zn w (.agg #[.bool b, u]) z) : b = decide (z < 0) ∧ Num w u z.natAbs := by
  obtain ⟨u', h1, h2⟩ := h
  simp only [Value.agg.injEq, Array.mk.injEq, List.cons.injEq, Value.bool.injEq, and_true] at h1
  obtain ⟨rfl, rfl⟩ := h1
  exact ⟨rfl, h2⟩

theorem rlimbs6 (v : Value) (x : Nat) (w : World) (h : Num w v x) (hb : blen x ≤ 1125899906809856) :
    Calls Tryz.prog 82 #[v] w fun e w' => (∃ a n k rs, e = .returned (.slice a n k) ∧ Arg w' (.slice a n k) rs ∧ val rs = x ∧ tr rs = rs) ∧ Below w.heap.size w w' := by
  obtain ⟨ds, hd1, hd2, hd3, hd4, hd5⟩ := h
  have hl := num_len hd2 hd3 35184372087808 (by rw [hd4]; omega)
  have hp := pairs_length ds
  refine (limbs_any v ds w hd1 hd2 (by omega)).mono ?_
  rintro e w' ⟨⟨v', rfl, hans⟩, hbel⟩
  obtain ⟨a, k, rfl⟩ := hans.shape
  exact ⟨⟨a, _, k, pairs ds, rfl, hans.arg (by omega), by rw [pairs_val, hd4], pairs_tr ds hd3⟩, hbel⟩

theorem isTail_once {x t u : Nat} (h : IsTail x t) (k : IsTail x u) : t = u := by
  rcases Nat.lt_trichotomy t u with hl | hl | hl
  · have := tail_low k hl
    have := h.2
    omega
  · exact hl
  · have := tail_low h hl
    have := k.2
    omega

theorem int_few {n : Int} (h1 : -9223372036854775808 ≤ n) (h2 : n ≤ 9223372036854775807) : blen n.natAbs ≤ 64 := by
  refine (blen_le_iff _ _).2 ?_
  have : (2 : Nat) ^ 64 = 18446744073709551616 := by decide
  omega

/-- Is it an int: as the law asks. -/
theorem fits_small {z : Int} {t : Nat} (ht : (z.natAbs = 0 ∧ t = 0) ∨ IsTail z.natAbs t) : FitsInt z ↔ (blen z.natAbs < 64 ∨ (z < 0 ∧ blen z.natAbs = 64 ∧ t = 63)) := by
  have h63 := blen_le_iff z.natAbs 63
  have h64 := blen_le_iff z.natAbs 64
  unfold FitsInt
  have e63 : (2 : Nat) ^ 63 = 9223372036854775808 := by decide
  have e64 : (2 : Nat) ^ 64 = 18446744073709551616 := by decide
  rw [e63] at h63
  rw [e64] at h64
  constructor
  · intro ⟨h1, h2⟩
    by_cases hs : z.natAbs < 9223372036854775808
    · exact .inl (by have := h63.2 hs; omega)
    · have hz : z.natAbs = 9223372036854775808 := by omega
      refine .inr ⟨by omega, ?_, ?_⟩
      · have a := h64.2 (by omega)
        have b : ¬ blen z.natAbs ≤ 63 := fun h => hs (h63.1 h)
        omega
      · rcases ht with ⟨h0, _⟩ | ht
        · omega
        · rw [hz] at ht
          exact isTail_once ht ⟨by decide, by decide⟩
  · rintro (h | ⟨h1, h2, h3⟩)
    · have := h63.1 (by omega)
      omega
    · subst h3
      rcases ht with ⟨h0, _⟩ | ht
      · omega
      · have a := h64.1 (by omega)
        have b := ht.1
        rw [e63] at b
        omega

end Go.Proofs.YtfgcngndiblpmaaGreatDoor
