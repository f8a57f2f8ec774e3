/- The document's dyadics as whole numbers at one scale. -/
import Derived.Test.YtemajaclpkgpbaaDoorDyRwZ
import Derived.Test.YtemajaclpkgpbaaDoorDyRdZ
import Derived.Test.YtemajaclpkgpbaaDoorDyRk2Z
import Derived.Test.YtemajaclpkgpbaaDoorDyRnZ
import Derived.Test.YtemajaclpkgpbaaDoorDyTZ
import Derived.Test.YtemajaclpkgpbaaDoorQ9
import Derived.Deep.RegionHeld3
namespace Go.Proofs.YtemajaclpkgpbaaDoor
open Go.RowKit
open Lm
attribute [local go_sem ↓] Go.wp_at_zero Go.wp_at_succ

/-- A dyadic of the document's: V, counted in 2^-L. -/
def T8 (w : World) (b : Bool) (a : Option Addr) (n c : Nat) (E : Int) (L : Nat) (V : Int) : Prop :=
  ∃ M, Dn w b (.slice a n c) M ∧ Rp L M E V ∧ Nr8 M E ∧ blen M.natAbs ≤ 4000000000000 ∧ -576460752303423488 ≤ E ∧ E ≤ 576460752303423488

theorem T8.below {w w' : World} {b : Bool} {a : Option Addr} {n c : Nat} {E : Int} {L : Nat} {V : Int} (h : T8 w b a n c E L V) (hb : Below w.heap.size w w') : T8 w' b a n c E L V := by
  obtain ⟨M, h1, h2⟩ := h
  exact ⟨M, h1.below hb, h2⟩

theorem T8.tri8 {w : World} {b : Bool} {a : Option Addr} {n c : Nat} {E : Int} {L : Nat} {V : Int} (h : T8 w b a n c E L V) {g : Nat} {p : Bool} {a' : Option Addr} {n' c' : Nat} {e : Int} {t : TypeId} (hl : w.heap[g]? = some (.cells #[.bool p, .slice a' n' c', .int .i64 e] t)) (p1 : Bool) (a1 : Option Addr) (n1 c1 : Nat) (u2 : Value) : T8 (((w.setCell ⟨g, 0, none⟩ (.bool p1)).setCell ⟨g, 1, none⟩ (.slice a1 n1 c1)).setCell ⟨g, 2, none⟩ u2) b a n c E L V := by
  obtain ⟨M, h1, h2⟩ := h
  exact ⟨M, h1.tri8 hl p1 a1 n1 c1 u2, h2⟩

/-- What a call of the document's answers: a dyadic V. -/
def TDone (w : World) (L : Nat) (V : Int) (e : Ending) (w' : World) : Prop := (∃ b a n c E, e = .returned (.agg #[.bool b, .slice a n c, .int .i64 E]) ∧ T8 w' b a n c E L V) ∧ Below w.heap.size w w'

theorem Nr8.neg8 {M E : Int} (h : Nr8 M E) : Nr8 (-M) E := by
  rcases h with ⟨h1, h2⟩ | h
  · exact .inl ⟨by omega, h2⟩
  · exact .inr (by rw [Int.natAbs_neg]; exact h)

theorem Nr8.abs8 {M E : Int} (h : Nr8 M E) : Nr8 (M.natAbs : Int) E := by
  rcases h with ⟨h1, h2⟩ | h
  · exact .inl ⟨by omega, h2⟩
  · exact .inr (by rw [Int.natAbs_natCast]; exact h)

theorem Rp.abs8 {L : Nat} {M E V : Int} (h : Rp L M E V) : Rp L (M.natAbs : Int) E (V.natAbs : Int) := by
  obtain ⟨h1, h2⟩ := h
  refine ⟨h1, ?_⟩
  rw [← h2, Int.natAbs_mul, Int.natCast_mul, Int.natAbs_pow, Int.natCast_pow]
  rfl

theorem tcmp8 (b1 : Bool) (a1 : Option Addr) (n1 c1 : Nat) (E1 : Int) (b2 : Bool) (a2 : Option Addr) (n2 c2 : Nat) (E2 : Int) (L : Nat) (V1 V2 : Int) (w : World) (h1 : T8 w b1 a1 n1 c1 E1 L V1) (h2 : T8 w b2 a2 n2 c2 E2 L V2) :
    Calls Tryd.prog 34 #[.agg #[.bool b1, .slice a1 n1 c1, .int .i64 E1], .agg #[.bool b2, .slice a2 n2 c2, .int .i64 E2]] w fun e w' => e = .returned (.int .i64 (cmpZ V1 V2)) ∧ Below w.heap.size w w' := by
  obtain ⟨M1, d1, r1, _, f1, x1, y1⟩ := h1
  obtain ⟨M2, d2, r2, _, f2, x2, y2⟩ := h2
  have p1 := r1.1
  have p2 := r2.1
  refine (rdCmp_any b1 a1 n1 c1 M1 E1 b2 a2 n2 c2 M2 E2 L (E1 + L).toNat (E2 + L).toNat w d1 d2 f1 f2 (by omega) (by omega) (by omega) (by omega) (by omega) (by omega)).mono fun e w' h => ?_
  rw [r1.2, r2.2] at h
  exact h

theorem tneg8 (b : Bool) (a : Option Addr) (n c : Nat) (E : Int) (L : Nat) (V : Int) (w : World) (h : T8 w b a n c E L V) :
    Calls Tryd.prog 39 #[.agg #[.bool b, .slice a n c, .int .i64 E]] w (fun e w' => (∃ b' a' n' c', e = .returned (.agg #[.bool b', .slice a' n' c', .int .i64 E]) ∧ T8 w' b' a' n' c' E L (-V)) ∧ Below w.heap.size w w') := by
  obtain ⟨M, d, r, q, f, x, y⟩ := h
  refine (rdNeg_any b a n c M E w d).mono fun e w' h => ?_
  obtain ⟨⟨b', a', n', c', he, hd⟩, hb⟩ := h
  exact ⟨⟨b', a', n', c', he, -M, hd, r.neg, q.neg8, by rw [Int.natAbs_neg]; exact f, x, y⟩, hb⟩

theorem tabs8 (b : Bool) (a : Option Addr) (n c : Nat) (E : Int) (L : Nat) (V : Int) (w : World) (h : T8 w b a n c E L V) :
    Calls Tryd.prog 41 #[.agg #[.bool b, .slice a n c, .int .i64 E]] w (fun e w' => (∃ b' a' n' c', e = .returned (.agg #[.bool b', .slice a' n' c', .int .i64 E]) ∧ T8 w' b' a' n' c' E L (V.natAbs : Int)) ∧ Below w.heap.size w w') := by
  obtain ⟨M, d, r, q, f, x, y⟩ := h
  refine (rdAbs_any b a n c M E w d).mono fun e w' h => ?_
  obtain ⟨⟨b', a', n', c', he, hd⟩, hb⟩ := h
  exact ⟨⟨b', a', n', c', he, (M.natAbs : Int), hd, r.abs8, q.abs8, by rw [Int.natAbs_natCast]; exact f, x, y⟩, hb⟩

/-- The length of a mantissa out of the number's size. -/
theorem Rp.blen8 {L : Nat} {M E V : Int} {k : Nat} (h : Rp L M E V) (hV : V.natAbs < 2 ^ ((E + L).toNat + k)) : blen M.natAbs ≤ k := by
  obtain ⟨h1, h2⟩ := h
  rw [blen_le_iff]
  rw [← h2, Int.natAbs_mul, Int.natAbs_pow, Nat.pow_add] at hV
  have e2 : (2 : Int).natAbs = 2 := rfl
  rw [e2, Nat.mul_comm] at hV
  exact Nat.lt_of_mul_lt_mul_left hV

theorem Rp.small8 {L : Nat} {M E V : Int} {k : Nat} (h : Rp L M E V) (hk : blen M.natAbs ≤ k) : V.natAbs < 2 ^ ((E + L).toNat + k) := by
  obtain ⟨h1, h2⟩ := h
  rw [blen_le_iff] at hk
  rw [← h2, Int.natAbs_mul, Int.natAbs_pow, Nat.pow_add, Nat.mul_comm]
  exact Nat.mul_lt_mul_of_pos_left hk (Nat.two_pow_pos _)

theorem Rp.exp8 {L : Nat} {M E V : Int} {k : Nat} (h : Rp L M E V) (h0 : V ≠ 0) (hV : V.natAbs < 2 ^ k) : (E + L).toNat < k := by
  obtain ⟨h1, h2⟩ := h
  have hM : M ≠ 0 := by intro h; rw [h, Int.zero_mul] at h2; exact h0 h2.symm
  rw [← h2, Int.natAbs_mul, Int.natAbs_pow] at hV
  have e2 : (2 : Int).natAbs = 2 := rfl
  rw [e2] at hV
  apply Classical.byContradiction
  intro hn
  have h3 : 2 ^ k ≤ 2 ^ (E + L).toNat := Nat.pow_le_pow_right (by omega) (by omega)
  have h4 : 2 ^ (E + L).toNat ≤ M.natAbs * 2 ^ (E + L).toNat := Nat.le_mul_of_pos_left _ (by omega)
  omega

/-- Add of two, with what is known of the sum's size. -/
theorem tadd8 (b1 : Bool) (a1 : Option Addr) (n1 c1 : Nat) (E1 : Int) (b2 : Bool) (a2 : Option Addr) (n2 c2 : Nat) (E2 : Int) (L : Nat) (V1 V2 : Int) (w : World) (h1 : T8 w b1 a1 n1 c1 E1 L V1) (h2 : T8 w b2 a2 n2 c2 E2 L V2) (e1 : -288230376151711744 ≤ E1 ∧ E1 ≤ 288230376151711744) (e2 : -288230376151711744 ≤ E2 ∧ E2 ≤ 288230376151711744) (hS : V1 ≠ 0 → V2 ≠ 0 → (V1 + V2).natAbs < 2 ^ ((min E1 E2 + L).toNat + 4000000000000)) :
    Calls Tryd.prog 38 #[.agg #[.bool b1, .slice a1 n1 c1, .int .i64 E1], .agg #[.bool b2, .slice a2 n2 c2, .int .i64 E2]] w (fun e w' => (∃ b a n k E' ok, e = .returned (.tuple #[.agg #[.bool b, .slice a n k, .int .i64 E'], .bool ok]) ∧ (ok = true → T8 w' b a n k E' L (V1 + V2)) ∧ (ok = false → V1 ≠ 0 ∧ V2 ≠ 0 ∧ (if E2 ≤ E1 then V2.natAbs else V1.natAbs) < (V1 + V2).natAbs)) ∧ Below w.heap.size w w') := by
  obtain ⟨M1, d1, r1, q1, f1, x1, y1⟩ := h1
  obtain ⟨M2, d2, r2, q2, f2, x2, y2⟩ := h2
  have hr := (Rp.add r1 r2).norm
  have hn := nr8_of (sm M1 E1 M2 E2) (min E1 E2)
  have z1 := r1.pos.2
  have z2 := r2.pos.2
  have hmin : sm M1 E1 M2 E2 ≠ 0 → min E1 E2 ≤ oe (sm M1 E1 M2 E2) (min E1 E2) := by
    intro h; unfold oe; rw [if_neg h]; omega
  have hz0 : sm M1 E1 M2 E2 = 0 ↔ V1 + V2 = 0 := (Rp.add r1 r2).pos.2.symm
  have hoz : sm M1 E1 M2 E2 = 0 → oe (sm M1 E1 M2 E2) (min E1 E2) = 0 ∧ omz (sm M1 E1 M2 E2) = 0 := by
    intro h; rw [h]; exact ⟨by simp [oe], omz_zero⟩
  refine (rdAdd_k b1 a1 n1 c1 M1 E1 b2 a2 n2 c2 M2 E2 w d1 d2 q1 q2 f1 f2 (by omega) (by omega) (by omega) (by omega)).mono fun e w' h => ?_
  generalize oe (sm M1 E1 M2 E2) (min E1 E2) = OE at *
  generalize omz (sm M1 E1 M2 E2) = OM at *
  generalize sm M1 E1 M2 E2 = S at *
  have hmL : 0 ≤ min E1 E2 + (L : Int) := by have := r1.1; have := r2.1; omega
  obtain ⟨⟨b, a, n, k, E', ok, he, h3 | h3⟩, hb⟩ := h
  · refine ⟨⟨b, a, n, k, E', ok, he, fun _ => ?_, fun h => ?_⟩, hb⟩
    · obtain ⟨_, hd, rfl⟩ := h3
      by_cases c1 : V1 = 0
      · rw [c1, Int.zero_add] at hr ⊢
        obtain ⟨rfl, rfl⟩ := Rp.one hr r2 hn q2
        exact ⟨_, hd, hr, hn, f2, x2, y2⟩
      by_cases c2 : V2 = 0
      · rw [c2, Int.add_zero] at hr ⊢
        obtain ⟨rfl, rfl⟩ := Rp.one hr r1 hn q1
        exact ⟨_, hd, hr, hn, f1, x1, y1⟩
      have hS' := hS c1 c2
      by_cases hs : S = 0
      · obtain ⟨rfl, rfl⟩ := hoz hs
        exact ⟨0, hd, hr, hn, by decide, by omega, by omega⟩
      · have hm := hmin hs
        have hv : V1 + V2 ≠ 0 := fun h => hs (hz0.2 h)
        have hx := hr.exp8 hv hS'
        have hr1 := hr.1
        refine ⟨OM, hd, hr, hn, hr.blen8 (Nat.lt_of_lt_of_le hS' (Nat.pow_le_pow_right (by omega) (by omega))), by omega, by omega⟩
    · rw [h3.1] at h; cases h
  · refine ⟨⟨b, a, n, k, E', ok, he, fun h => ?_, fun _ => ?_⟩, hb⟩
    · rw [h3.1] at h; cases h
    · obtain ⟨_, hbig, _⟩ := h3
      have hs : S ≠ 0 := by
        intro h
        rw [(hoz h).2] at hbig
        have : blen (0 : Int).natAbs = 0 := rfl
        omega
      have hm := hmin hs
      have hr1 := hr.1
      have hne1 : V1 ≠ 0 := by
        intro h
        rw [h, Int.zero_add] at hr
        obtain ⟨rfl, rfl⟩ := Rp.one hr r2 hn q2
        rw [if_pos (z1.1 h)] at hbig
        omega
      have hM1 : ¬ M1 = 0 := fun h => hne1 (z1.2 h)
      rw [if_neg hM1] at hbig
      have hne2 : V2 ≠ 0 := by
        intro h
        rw [h, Int.add_zero] at hr
        obtain ⟨rfl, rfl⟩ := Rp.one hr r1 hn q1
        rw [if_pos (z2.1 h)] at hbig
        omega
      have hM2 : ¬ M2 = 0 := fun h => hne2 (z2.2 h)
      rw [if_neg hM2] at hbig
      refine ⟨hne1, hne2, ?_⟩
      apply Classical.byContradiction
      intro hc
      by_cases hl : E2 ≤ E1
      · rw [if_pos hl] at hc hbig
        have h5 := r2.small8 (Nat.le_refl _)
        have h6 := hr.blen8 (k := blen M2.natAbs) (Nat.lt_of_le_of_lt (Nat.le_of_not_lt hc) (Nat.lt_of_lt_of_le h5 (Nat.pow_le_pow_right (by omega) (by omega))))
        omega
      · rw [if_neg hl] at hc hbig
        have h5 := r1.small8 (Nat.le_refl _)
        have h6 := hr.blen8 (k := blen M1.natAbs) (Nat.lt_of_le_of_lt (Nat.le_of_not_lt hc) (Nat.lt_of_lt_of_le h5 (Nat.pow_le_pow_right (by omega) (by omega))))
        omega

/-- Scale: at another scale it is the same number. -/
theorem tscale8 (b : Bool) (a : Option Addr) (n c : Nat) (E : Int) (L s : Nat) (V : Int) (w : World) (h : T8 w b a n c E L V) (hs : s ≤ 1048577) (e1 : -288230376151711744 ≤ E) :
    Calls Tryd.prog 40 #[.agg #[.bool b, .slice a n c, .int .i64 E], .int .i64 (-(s : Int))] w (TDone w (L + s) V) := by
  obtain ⟨M, d, r, q, f, x, y⟩ := h
  refine (rdScale_any b a n c M E (-(s : Int)) w d (fun _ => by omega)).mono fun e w' h => ?_
  obtain ⟨⟨b', a', n', c', he, hd⟩, hb⟩ := h
  refine ⟨⟨b', a', n', c', _, he, M, hd, ?_⟩, hb⟩
  by_cases h0 : M = 0
  · rw [if_pos h0]
    have hE : E = 0 := by
      rcases q with q | q
      · exact q.2
      · rw [h0] at q; simp at q
    have hV : V = 0 := r.pos.2.2 h0
    rw [h0, hE, hV]
    exact ⟨⟨by omega, by rw [Int.zero_mul]⟩, .inl ⟨rfl, rfl⟩, by decide, by omega, by omega⟩
  · rw [if_neg h0]
    have r1 := r.1
    refine ⟨⟨by omega, ?_⟩, ?_, f, by omega, by omega⟩
    · rw [← r.2]
      congr 2
      omega
    · rcases q with q | q
      · exact absurd q.1 h0
      · exact .inr q

/-- The same number at a finer scale. -/
theorem T8.fine {w : World} {b : Bool} {a : Option Addr} {n c : Nat} {E : Int} {L : Nat} {V : Int} (h : T8 w b a n c E L V) (s : Nat) : T8 w b a n c E (L + s) (V * 2 ^ s) := by
  obtain ⟨M, d, r, q⟩ := h
  refine ⟨M, d, ⟨by have := r.1; omega, ?_⟩, q⟩
  rw [← r.2, Int.mul_assoc, ← Int.pow_add]
  congr 2
  have := r.1
  omega

end Go.Proofs.YtemajaclpkgpbaaDoor
