/- Package dyadic: the calls over numbers at one scale. -/
import Derived.Test.YtlengglmnbpkbaaGreatDoorDyYZ
import Derived.Test.YtlengglmnbpkbaaGreatDoorQ9
import Derived.Test.YtlengglmnbpkbaaGreatDoorDyJZ
import Derived.Test.YtlengglmnbpkbaaGreatDoorDyCmZ
namespace Go.Proofs.YtlengglmnbpkbaaGreatDoor
open Go.RowKit
open Lm

/-- A dyadic that was handed in: V, counted in 2^-L. -/
def I8 (w : World) (b : Bool) (a : Option Addr) (n k : Nat) (ex : Int) (L : Nat) (V : Int) : Prop :=
  ∃ rs : List Nat, n = rs.length ∧ Arg w (.slice a n k) rs ∧ rs.length ≤ 17592186043904 ∧ Rp L (zz b (val rs)) ex V

/-- A dyadic that was answered, normal. -/
def G8 (w : World) (b : Bool) (a : Option Addr) (n k : Nat) (ex : Int) (L : Nat) (V : Int) : Prop :=
  ∃ rs : List Nat, n = rs.length ∧ Arg w (.slice a n k) rs ∧ rs.length ≤ 1048576 ∧ Rp L (zz b (val rs)) ex V ∧ tr rs = rs ∧ b = decide (zz b (val rs) < 0) ∧ Nr8 (zz b (val rs)) ex ∧ fitE ex = true

/-- An answer with its code. -/
def P8 (w : World) (b : Bool) (a : Option Addr) (n k : Nat) (ex c : Int) (L : Nat) (V : Int) : Prop := c = 0 → G8 w b a n k ex L V

theorem I8.below {w w' : World} {b : Bool} {a : Option Addr} {n k : Nat} {ex : Int} {L : Nat} {V : Int} (h : I8 w b a n k ex L V) (hb : Below w.heap.size w w') : I8 w' b a n k ex L V := by
  obtain ⟨rs, h1, h2, h3⟩ := h
  exact ⟨rs, h1, h2.below hb, h3⟩

theorem G8.below {w w' : World} {b : Bool} {a : Option Addr} {n k : Nat} {ex : Int} {L : Nat} {V : Int} (h : G8 w b a n k ex L V) (hb : Below w.heap.size w w') : G8 w' b a n k ex L V := by
  obtain ⟨rs, h1, h2, h3⟩ := h
  exact ⟨rs, h1, h2.below hb, h3⟩

theorem P8.below {w w' : World} {b : Bool} {a : Option Addr} {n k : Nat} {ex c : Int} {L : Nat} {V : Int} (h : P8 w b a n k ex c L V) (hb : Below w.heap.size w w') : P8 w' b a n k ex c L V := fun e => (h e).below hb

theorem G8.inn {w : World} {b : Bool} {a : Option Addr} {n k : Nat} {ex : Int} {L : Nat} {V : Int} (h : G8 w b a n k ex L V) : I8 w b a n k ex L V := by
  obtain ⟨rs, h1, h2, h3, h4, _⟩ := h
  exact ⟨rs, h1, h2, by omega, h4⟩

/-- What the calls answer. -/
def A8 (w : World) (e : Ending) (w' : World) (L : Nat) (V : Int) : Prop :=
  (∃ b a n k ex c, e = .returned (.tuple #[.agg #[.bool b, .slice a n k, .int .i64 ex], .int .i64 c]) ∧ P8 w' b a n k ex c L V) ∧ Below w.heap.size w w'

theorem DErr.a8 {w w' : World} {e : Ending} {c : Int} {L : Nat} {V : Int} (h : DErr c e) (hc : c ≠ 0) (hb : Below w.heap.size w w') : A8 w e w' L V :=
  ⟨⟨_, _, _, _, _, _, h, fun e => absurd e hc⟩, hb⟩

theorem DRes.a8 {w w' : World} {e : Ending} {base : Nat} {M E : Int} {L : Nat} {V : Int} (h : DRes w' base e M E) (hr : Rp L M E V) (hn : Nr8 M E) (hb : Below w.heap.size w w') : A8 w e w' L V := by
  obtain ⟨b, a, n, k, ex, c, he, rs, hA, hc⟩ := h
  refine ⟨⟨b, a, n, k, ex, c, he, fun h0 => ?_⟩, hb⟩
  rcases hc with ⟨_, h2, h3, h4, h5, h6, h7⟩ | ⟨h, _⟩ | ⟨h, _⟩
  · have hz : zz b (val rs) = M := by rw [h2, h3]; exact zz_self M
    have hl : rs.length ≤ 1048576 := few_ofW h4 rfl (by rw [h3]; omega)
    have hR := hA.arg (by omega)
    obtain ⟨a', n', e1, _⟩ := hR.form
    have hn' : n = rs.length := by injection e1
    refine ⟨rs, hn', hR, hl, ?_, h4, ?_, ?_, ?_⟩
    · rw [hz, h5]; exact hr
    · rw [hz]; exact h2
    · rw [hz, h5]; exact hn
    · rw [h5]; exact h7
  · rw [h] at h0; exact absurd h0 (by decide)
  · rw [h] at h0; exact absurd h0 (by decide)

theorem yadd8 (b1 : Bool) (a1 : Option Addr) (n1 k1 : Nat) (ex1 : Int) (b2 : Bool) (a2 : Option Addr) (n2 k2 : Nat) (ex2 : Int) (L : Nat) (V1 V2 : Int) (w : World) (hT : Tab w) (h1 : I8 w b1 a1 n1 k1 ex1 L V1) (h2 : I8 w b2 a2 n2 k2 ex2 L V2) :
    Calls Tryz.prog 9 #[.agg #[.bool b1, .slice a1 n1 k1, .int .i64 ex1], .agg #[.bool b2, .slice a2 n2 k2, .int .i64 ex2]] w fun e w' => A8 w e w' L (V1 + V2) := by
  obtain ⟨X, rfl, hA, hf, hX⟩ := h1
  obtain ⟨Y, rfl, hB, hg, hY⟩ := h2
  cases hE1 : fitE ex1
  · exact (yadd_no b1 a1 _ k1 ex1 b2 a2 _ k2 ex2 w (fun W _ => yjp_no1 b1 a1 _ k1 ex1 b2 a2 _ k2 ex2 W hE1)).mono fun e w' h => h.1.a8 (by decide) h.2
  · cases hE2 : fitE ex2
    · exact (yadd_no b1 a1 _ k1 ex1 b2 a2 _ k2 ex2 w (fun W hg' => yjp_no2 b1 a1 k1 X ex1 b2 a2 _ k2 ex2 W (hT.below hg') (hA.below hg') hf hE1 hE2)).mono fun e w' h => h.1.a8 (by decide) h.2
    · have F1 := read_facts (b := b1) (ex := ex1) hA hf hE1
      have F2 := read_facts (b := b2) (ex := ex2) hB hg hE2
      refine (yadd_res b1 a1 _ k1 ex1 b2 a2 _ k2 ex2 _ _ w (fun W hg' => yjp_ok b1 a1 k1 X ex1 b2 a2 k2 Y ex2 _ _ W (hT.below hg') (hA.below hg') (hB.below hg') hf hg hE1 hE2 (fun W2 b3 a3 c3 X3 b4 a4 c4 X4 t3 m3 m4 l3 l4 => yplus_any b3 a3 c3 X3 _ _ b4 a4 c4 X4 _ _ W2 m3 m4 F1.2.2.2 F2.2.2.2 l3 l4 F1.2.1 F2.2.2.1 F2.2.1 F1.2.2.1))).mono fun e w' h => DRes.a8 h.1 ?_ (nr8_of _ _) h.2
      exact (Rp.add hX.norm hY.norm).norm

theorem ysub8 (b1 : Bool) (a1 : Option Addr) (n1 k1 : Nat) (ex1 : Int) (b2 : Bool) (a2 : Option Addr) (n2 k2 : Nat) (ex2 : Int) (L : Nat) (V1 V2 : Int) (w : World) (hT : Tab w) (h1 : I8 w b1 a1 n1 k1 ex1 L V1) (h2 : I8 w b2 a2 n2 k2 ex2 L V2) :
    Calls Tryz.prog 10 #[.agg #[.bool b1, .slice a1 n1 k1, .int .i64 ex1], .agg #[.bool b2, .slice a2 n2 k2, .int .i64 ex2]] w fun e w' => A8 w e w' L (V1 + -V2) := by
  obtain ⟨X, rfl, hA, hf, hX⟩ := h1
  obtain ⟨Y, rfl, hB, hg, hY⟩ := h2
  cases hE1 : fitE ex1
  · exact (ysub_no b1 a1 _ k1 ex1 b2 a2 _ k2 ex2 w (fun W _ => yjm_no1 b1 a1 _ k1 ex1 b2 a2 _ k2 ex2 W hE1)).mono fun e w' h => h.1.a8 (by decide) h.2
  · cases hE2 : fitE ex2
    · exact (ysub_no b1 a1 _ k1 ex1 b2 a2 _ k2 ex2 w (fun W hg' => yjm_no2 b1 a1 k1 X ex1 b2 a2 _ k2 ex2 W (hT.below hg') (hA.below hg') hf hE1 hE2)).mono fun e w' h => h.1.a8 (by decide) h.2
    · have F1 := read_facts (b := b1) (ex := ex1) hA hf hE1
      have F2 := read_facts (b := b2) (ex := ex2) hB hg hE2
      refine (ysub_res b1 a1 _ k1 ex1 b2 a2 _ k2 ex2 _ _ w (fun W hg' => yjm_ok b1 a1 k1 X ex1 b2 a2 k2 Y ex2 _ _ W (hT.below hg') (hA.below hg') (hB.below hg') hf hg hE1 hE2 (fun W2 b3 a3 c3 X3 b4 a4 c4 X4 t3 m3 m4 l3 l4 => yminus_any b3 a3 c3 X3 _ _ b4 a4 c4 X4 _ _ W2 m3 m4 F1.2.2.2 F2.2.2.2 l3 l4 F1.2.1 F2.2.2.1 F2.2.1 F1.2.2.1))).mono fun e w' h => DRes.a8 h.1 ?_ (nr8_of _ _) h.2
      exact (Rp.add hX.norm hY.norm.neg).norm

theorem ymul8 (b1 : Bool) (a1 : Option Addr) (n1 k1 : Nat) (ex1 : Int) (b2 : Bool) (a2 : Option Addr) (n2 k2 : Nat) (ex2 : Int) (L K : Nat) (V1 V2 : Int) (w : World) (hT : Tab w) (h1 : I8 w b1 a1 n1 k1 ex1 L V1) (h2 : I8 w b2 a2 n2 k2 ex2 K V2) :
    Calls Tryz.prog 11 #[.agg #[.bool b1, .slice a1 n1 k1, .int .i64 ex1], .agg #[.bool b2, .slice a2 n2 k2, .int .i64 ex2]] w fun e w' => A8 w e w' (L + K) (V1 * V2) := by
  obtain ⟨X, rfl, hA, hf, hX⟩ := h1
  obtain ⟨Y, rfl, hB, hg, hY⟩ := h2
  cases hE1 : fitE ex1
  · exact (ymul_no b1 a1 _ k1 ex1 b2 a2 _ k2 ex2 w (fun W _ => yjt_no1 b1 a1 _ k1 ex1 b2 a2 _ k2 ex2 W hE1)).mono fun e w' h => h.1.a8 (by decide) h.2
  · cases hE2 : fitE ex2
    · exact (ymul_no b1 a1 _ k1 ex1 b2 a2 _ k2 ex2 w (fun W hg' => yjt_no2 b1 a1 k1 X ex1 b2 a2 _ k2 ex2 W (hT.below hg') (hA.below hg') hf hE1 hE2)).mono fun e w' h => h.1.a8 (by decide) h.2
    · have F1 := read_facts (b := b1) (ex := ex1) hA hf hE1
      have F2 := read_facts (b := b2) (ex := ex2) hB hg hE2
      refine (ymul_res b1 a1 _ k1 ex1 b2 a2 _ k2 ex2 _ _ w (fun W hg' => yjt_ok b1 a1 k1 X ex1 b2 a2 k2 Y ex2 _ _ W (hT.below hg') (hA.below hg') (hB.below hg') hf hg hE1 hE2 (fun W2 b3 a3 c3 X3 b4 a4 c4 X4 t3 m3 m4 l3 l4 => ytimes_any b3 a3 c3 X3 _ _ b4 a4 c4 X4 _ _ W2 t3 m3 m4 F1.2.2.2 F2.2.2.2 l3 l4 F1.2.1 F2.2.2.1 F2.2.1 F1.2.2.1))).mono fun e w' h => DRes.a8 h.1 ?_ (nr8_of _ _) h.2
      exact (Rp.mul hX.norm hY.norm).norm

theorem yscale8 (b1 : Bool) (a1 : Option Addr) (n1 k1 : Nat) (ex1 : Int) (L : Nat) (V1 : Int) (w : World) (hT : Tab w) (h1 : I8 w b1 a1 n1 k1 ex1 L V1) :
    Calls Tryz.prog 23 #[.agg #[.bool b1, .slice a1 n1 k1, .int .i64 ex1], .int .i64 0] w fun e w' => A8 w e w' L V1 := by
  obtain ⟨X, rfl, hA, hf, hX⟩ := h1
  cases hE1 : fitE ex1
  · exact (yscale_no b1 a1 _ k1 ex1 0 w hE1).mono fun e w' h => h.1.a8 (by decide) h.2
  · refine (yscale_ok b1 a1 k1 X ex1 0 w hA hT (by omega) hE1 (by decide)).mono fun e w' h => DRes.a8 h.1 ?_ (nr8_of _ _) h.2
    rw [Int.add_zero]
    exact hX.norm

theorem ycmp8 (b1 : Bool) (a1 : Option Addr) (n1 k1 : Nat) (ex1 : Int) (b2 : Bool) (a2 : Option Addr) (n2 k2 : Nat) (ex2 : Int) (L : Nat) (V1 V2 : Int) (w : World) (hL : 4611686018427387904 ≤ L) (h1 : I8 w b1 a1 n1 k1 ex1 L V1) (h2 : I8 w b2 a2 n2 k2 ex2 L V2) :
    Calls Tryz.prog 21 #[.agg #[.bool b1, .slice a1 n1 k1, .int .i64 ex1], .agg #[.bool b2, .slice a2 n2 k2, .int .i64 ex2]] w fun e w' => (∃ k c, e = .returned (.tuple #[.int .i64 k, .int .i64 c]) ∧ (c = 0 → k = cmpZ V1 V2)) ∧ Below w.heap.size w w' := by
  obtain ⟨X, rfl, hA, hf, hX⟩ := h1
  obtain ⟨Y, rfl, hB, hg, hY⟩ := h2
  cases hE1 : fitE ex1
  · exact (yCompare_no1 b1 a1 _ k1 ex1 b2 a2 _ k2 ex2 w hE1).mono fun e w' h => ⟨⟨_, _, h.1, fun e => absurd e (by decide)⟩, h.2⟩
  · cases hE2 : fitE ex2
    · exact (yCompare_no2 b1 a1 k1 X ex1 b2 a2 _ k2 ex2 w hA hE1 hE2).mono fun e w' h => ⟨⟨_, _, h.1, fun e => absurd e (by decide)⟩, h.2⟩
    · have hx := hX.1
      have hy := hY.1
      refine (yCompare_ok b1 a1 k1 X ex1 b2 a2 k2 Y ex2 L (ex1 + L).toNat (ex2 + L).toNat w hA hB (by omega) (by omega) hE1 hE2 hL (by omega) (by omega)).mono fun e w' h => ⟨⟨_, _, h.1, fun _ => ?_⟩, h.2⟩
      rw [hX.2, hY.2]

theorem ysign8 (b1 : Bool) (a1 : Option Addr) (n1 k1 : Nat) (ex1 : Int) (L : Nat) (V1 : Int) (w : World) (h1 : I8 w b1 a1 n1 k1 ex1 L V1) :
    Calls Tryz.prog 25 #[.agg #[.bool b1, .slice a1 n1 k1, .int .i64 ex1]] w fun e w' => e = .returned (.int .i64 V1.sign) ∧ Below w.heap.size w w' := by
  obtain ⟨X, rfl, hA, hf, hX⟩ := h1
  have hs : sg b1 (val X) = V1.sign := by
    rw [sg_sign]
    have hp := hX.pos
    rcases Int.lt_trichotomy V1 0 with h | h | h
    · rw [Int.sign_eq_neg_one_of_neg h, Int.sign_eq_neg_one_of_neg (hp.1.1 h)]
    · rw [h, hp.2.1 h]
    · rw [Int.sign_eq_one_of_pos h, Int.sign_eq_one_of_pos]
      have a1 := hp.1
      have a2 := hp.2
      omega
  rw [← hs]
  exact ySign_any b1 a1 k1 X ex1 w hA

theorem ysame8 (b1 : Bool) (a1 : Option Addr) (n1 k1 : Nat) (ex1 : Int) (b2 : Bool) (a2 : Option Addr) (n2 k2 : Nat) (ex2 : Int) (L : Nat) (V : Int) (w : World) (h1 : G8 w b1 a1 n1 k1 ex1 L V) (h2 : G8 w b2 a2 n2 k2 ex2 L V) :
    Calls Tryz.prog 24 #[.agg #[.bool b1, .slice a1 n1 k1, .int .i64 ex1], .agg #[.bool b2, .slice a2 n2 k2, .int .i64 ex2]] w fun e w' => e = .returned (.bool true) ∧ Below w.heap.size w w' := by
  obtain ⟨X, rfl, hA, hf, hX, tX, sX, nX, _⟩ := h1
  obtain ⟨Y, rfl, hB, hg, hY, tY, sY, nY, _⟩ := h2
  obtain ⟨hm, he⟩ := Rp.one hX hY nX nY
  have hv : val X = val Y := by
    have h := congrArg Int.natAbs hm
    rw [zz_abs, zz_abs] at h
    exact h
  have hb : b1 = b2 := by rw [sX, sY, hm]
  subst hb he
  exact same8_any b1 ex1 a1 k1 X a2 k2 Y w hA hB hv tY sX (by omega)

end Go.Proofs.YtlengglmnbpkbaaGreatDoor
