/- What the law DyadicOrders uses. -/
import Derived.Test.YtegbjdjpeblkoaaDoorDyYoZ
import Derived.Test.YtegbjdjpeblkoaaDoorDyCmZ
import Derived.Test.YtegbjdjpeblkoaaDoorDyRk2Z
import Derived.Test.YtegbjdjpeblkoaaDoorDyRdZ
import Derived.Test.YtegbjdjpeblkoaaDoorDyTZ
import Derived.Test.YtegbjdjpeblkoaaDoorQ9
import Derived.Test.YtegbjdjpeblkoaaDoorDyJZ
import Derived.Test.YtegbjdjpeblkoaaDoorBxAZ
namespace Go.Proofs.YtegbjdjpeblkoaaDoor
open Go.RowKit
open Lm
attribute [local go_sem ↓] Go.wp_at_zero Go.wp_at_succ

theorem bl_alloc8 {W0 W : World} (h : Below W0.heap.size W0 W) (o : Obj) : Below W0.heap.size W0 (W.alloc o) := h.alloc h.size _

theorem ymin_full (b1 : Bool) (a1 : Option Addr) (k1 : Nat) (X : List Nat) (ex1 : Int) (b2 : Bool) (a2 : Option Addr) (k2 : Nat) (Y : List Nat) (ex2 : Int) (L p q : Nat) (w : World) (hT : Tab w) (hA : Arg w (.slice a1 X.length k1) X) (hB : Arg w (.slice a2 Y.length k2) Y) (hf : X.length ≤ 17592186043904) (hg : Y.length ≤ 17592186043904) (hE1 : fitE ex1 = true) (hE2 : fitE ex2 = true) (hL : 4611686018427387904 ≤ L) (hp : (p : Int) = oe (zz b1 (val X)) ex1 + L) (hq : (q : Int) = oe (zz b2 (val Y)) ex2 + L) :
    Calls Tryd.prog 11 #[.agg #[.bool b1, .slice a1 X.length k1, .int .i64 ex1], .agg #[.bool b2, .slice a2 Y.length k2, .int .i64 ex2]] w fun e w' => DRes w' w.heap.size e (omz (if cmpZ (omz (zz b2 (val Y)) * 2 ^ q) (omz (zz b1 (val X)) * 2 ^ p) < 0 then omz (zz b2 (val Y)) else omz (zz b1 (val X)))) (oe (if cmpZ (omz (zz b2 (val Y)) * 2 ^ q) (omz (zz b1 (val X)) * 2 ^ p) < 0 then omz (zz b2 (val Y)) else omz (zz b1 (val X))) (if cmpZ (omz (zz b2 (val Y)) * 2 ^ q) (omz (zz b1 (val X)) * 2 ^ p) < 0 then oe (zz b2 (val Y)) ex2 else oe (zz b1 (val X)) ex1)) ∧ Below w.heap.size w w' := by
  have F1 := read_facts (b := b1) (ex := ex1) hA hf hE1
  have F2 := read_facts (b := b2) (ex := ex2) hB hg hE2
  exact ymin_res b1 a1 _ k1 ex1 b2 a2 _ k2 ex2 _ _ w (fun W hg' => yjl_ok b1 a1 k1 X ex1 b2 a2 k2 Y ex2 _ _ W (hT.below hg') (hA.below hg') (hB.below hg') hf hg hE1 hE2 (fun W2 b3 a3 c3 X3 b4 a4 c4 X4 _ m3 m4 l3 l4 => (ylesser_any b3 a3 c3 X3 _ _ b4 a4 c4 X4 _ _ L p q W2 m3 m4 l3 l4 F1.2.1 F1.2.2.1 F2.2.1 F2.2.2.1 hL hp hq).mono fun _ _ h => h.half))

theorem ymax_full (b1 : Bool) (a1 : Option Addr) (k1 : Nat) (X : List Nat) (ex1 : Int) (b2 : Bool) (a2 : Option Addr) (k2 : Nat) (Y : List Nat) (ex2 : Int) (L p q : Nat) (w : World) (hT : Tab w) (hA : Arg w (.slice a1 X.length k1) X) (hB : Arg w (.slice a2 Y.length k2) Y) (hf : X.length ≤ 17592186043904) (hg : Y.length ≤ 17592186043904) (hE1 : fitE ex1 = true) (hE2 : fitE ex2 = true) (hL : 4611686018427387904 ≤ L) (hp : (p : Int) = oe (zz b1 (val X)) ex1 + L) (hq : (q : Int) = oe (zz b2 (val Y)) ex2 + L) :
    Calls Tryd.prog 12 #[.agg #[.bool b1, .slice a1 X.length k1, .int .i64 ex1], .agg #[.bool b2, .slice a2 Y.length k2, .int .i64 ex2]] w fun e w' => DRes w' w.heap.size e (omz (if 0 < cmpZ (omz (zz b2 (val Y)) * 2 ^ q) (omz (zz b1 (val X)) * 2 ^ p) then omz (zz b2 (val Y)) else omz (zz b1 (val X)))) (oe (if 0 < cmpZ (omz (zz b2 (val Y)) * 2 ^ q) (omz (zz b1 (val X)) * 2 ^ p) then omz (zz b2 (val Y)) else omz (zz b1 (val X))) (if 0 < cmpZ (omz (zz b2 (val Y)) * 2 ^ q) (omz (zz b1 (val X)) * 2 ^ p) then oe (zz b2 (val Y)) ex2 else oe (zz b1 (val X)) ex1)) ∧ Below w.heap.size w w' := by
  have F1 := read_facts (b := b1) (ex := ex1) hA hf hE1
  have F2 := read_facts (b := b2) (ex := ex2) hB hg hE2
  exact ymax_res b1 a1 _ k1 ex1 b2 a2 _ k2 ex2 _ _ w (fun W hg' => yjg_ok b1 a1 k1 X ex1 b2 a2 k2 Y ex2 _ _ W (hT.below hg') (hA.below hg') (hB.below hg') hf hg hE1 hE2 (fun W2 b3 a3 c3 X3 b4 a4 c4 X4 _ m3 m4 l3 l4 => (ygreater_any b3 a3 c3 X3 _ _ b4 a4 c4 X4 _ _ L p q W2 m3 m4 l3 l4 F1.2.1 F1.2.2.1 F2.2.1 F2.2.2.1 hL hp hq).mono fun _ _ h => h.half))

theorem ymid_full (b1 : Bool) (a1 : Option Addr) (k1 : Nat) (X : List Nat) (ex1 : Int) (b2 : Bool) (a2 : Option Addr) (k2 : Nat) (Y : List Nat) (ex2 : Int) (w : World) (hT : Tab w) (hA : Arg w (.slice a1 X.length k1) X) (hB : Arg w (.slice a2 Y.length k2) Y) (hf : X.length ≤ 17592186043904) (hg : Y.length ≤ 17592186043904) (hE1 : fitE ex1 = true) (hE2 : fitE ex2 = true) :
    Calls Tryd.prog 13 #[.agg #[.bool b1, .slice a1 X.length k1, .int .i64 ex1], .agg #[.bool b2, .slice a2 Y.length k2, .int .i64 ex2]] w fun e w' => DRes w' w.heap.size e (omz (sm (omz (zz b1 (val X))) (oe (zz b1 (val X)) ex1) (omz (zz b2 (val Y))) (oe (zz b2 (val Y)) ex2))) (oe (sm (omz (zz b1 (val X))) (oe (zz b1 (val X)) ex1) (omz (zz b2 (val Y))) (oe (zz b2 (val Y)) ex2)) (min (oe (zz b1 (val X)) ex1) (oe (zz b2 (val Y)) ex2) - 1)) ∧ Below w.heap.size w w' := by
  have F1 := read_facts (b := b1) (ex := ex1) hA hf hE1
  have F2 := read_facts (b := b2) (ex := ex2) hB hg hE2
  exact ymid_res b1 a1 _ k1 ex1 b2 a2 _ k2 ex2 _ _ w (fun W hg' => yji_ok b1 a1 k1 X ex1 b2 a2 k2 Y ex2 _ _ W (hT.below hg') (hA.below hg') (hB.below hg') hf hg hE1 hE2 (fun W2 b3 a3 c3 X3 b4 a4 c4 X4 _ m3 m4 l3 l4 => ymiddle_any b3 a3 c3 X3 _ _ b4 a4 c4 X4 _ _ W2 m3 m4 F1.2.2.2 F2.2.2.2 l3 l4 F1.2.1 F2.2.2.1 F2.2.1 F1.2.2.1))

theorem cmpZ_flip (y z : Int) : cmpZ z y = -cmpZ y z := by
  unfold cmpZ
  rcases Int.lt_trichotomy y z with h | h | h
  · rw [if_neg (show ¬ z < y by omega), if_pos h, if_pos h]; rfl
  · subst h; simp
  · rw [if_pos h, if_neg (show ¬ y < z by omega), if_pos h]

/-- The lesser and the greater one of two normal numbers. -/
theorem minmax_le {L p q : Nat} {M0 E0 M1 E1 : Int} (hp : (p : Int) = E0 + L) (hq : (q : Int) = E1 + L) (n0 : Nr8 M0 E0) (n1 : Nr8 M1 E1) (h : cmpZ (M0 * 2 ^ p) (M1 * 2 ^ q) ≤ 0) :
    (omz (if cmpZ (M1 * 2 ^ q) (M0 * 2 ^ p) < 0 then M1 else M0) = M0 ∧ oe (if cmpZ (M1 * 2 ^ q) (M0 * 2 ^ p) < 0 then M1 else M0) (if cmpZ (M1 * 2 ^ q) (M0 * 2 ^ p) < 0 then E1 else E0) = E0) ∧
    (omz (if 0 < cmpZ (M1 * 2 ^ q) (M0 * 2 ^ p) then M1 else M0) = M1 ∧ oe (if 0 < cmpZ (M1 * 2 ^ q) (M0 * 2 ^ p) then M1 else M0) (if 0 < cmpZ (M1 * 2 ^ q) (M0 * 2 ^ p) then E1 else E0) = E1) := by
  have hf := cmpZ_flip (M0 * 2 ^ p) (M1 * 2 ^ q)
  refine ⟨?_, ?_⟩
  · rw [if_neg (by omega), if_neg (by omega)]; exact n0.stay
  · by_cases hz : cmpZ (M0 * 2 ^ p) (M1 * 2 ^ q) = 0
    · rw [if_neg (by omega), if_neg (by omega)]
      have he : M0 * 2 ^ p = M1 * 2 ^ q := by
        unfold cmpZ at hz
        split at hz
        · cases hz
        · split at hz
          · cases hz
          · omega
      have r0 : Rp L M0 E0 (M0 * 2 ^ p) := ⟨by omega, by rw [show (E0 + (L : Int)).toNat = p by omega]⟩
      have r1 : Rp L M1 E1 (M0 * 2 ^ p) := ⟨by omega, by rw [he, show (E1 + (L : Int)).toNat = q by omega]⟩
      obtain ⟨e1, e2⟩ := Rp.one r0 r1 n0 n1
      rw [← e1, ← e2]; exact n0.stay
    · rw [if_pos (by omega), if_pos (by omega)]; exact n1.stay

theorem minmax_gt {p q : Nat} {M0 E0 M1 E1 : Int} (n0 : Nr8 M0 E0) (n1 : Nr8 M1 E1) (h : 0 < cmpZ (M0 * 2 ^ p) (M1 * 2 ^ q)) :
    (omz (if cmpZ (M1 * 2 ^ q) (M0 * 2 ^ p) < 0 then M1 else M0) = M1 ∧ oe (if cmpZ (M1 * 2 ^ q) (M0 * 2 ^ p) < 0 then M1 else M0) (if cmpZ (M1 * 2 ^ q) (M0 * 2 ^ p) < 0 then E1 else E0) = E1) ∧
    (omz (if 0 < cmpZ (M1 * 2 ^ q) (M0 * 2 ^ p) then M1 else M0) = M0 ∧ oe (if 0 < cmpZ (M1 * 2 ^ q) (M0 * 2 ^ p) then M1 else M0) (if 0 < cmpZ (M1 * 2 ^ q) (M0 * 2 ^ p) then E1 else E0) = E0) := by
  have hf := cmpZ_flip (M0 * 2 ^ p) (M1 * 2 ^ q)
  refine ⟨?_, ?_⟩
  · rw [if_pos (by omega), if_pos (by omega)]; exact n1.stay
  · rw [if_neg (by omega), if_neg (by omega)]; exact n0.stay

/-- What the document says of M times 2^E: the number, or an error. -/
def Says (w : World) (b : Bool) (v : Value) (E' f M E : Int) : Prop :=
  (f = 0 ∧ Dn w b v M ∧ E' = E) ∨ (f = 3 ∧ 67108864 < blen M.natAbs)

theorem alike8_says (b : Bool) (a : Option Addr) (n c : Nat) (ex r : Int) (b2 : Bool) (a2 : Option Addr) (n2 c2 : Nat) (E' f M E : Int) (base : Nat) (w : World) (hD : DR w base b (.slice a n c) ex r M E) (h : Says w b2 (.slice a2 n2 c2) E' f M E) :
    Calls Tryd.prog 15 #[.agg #[.bool b, .slice a n c, .int .i64 ex], .int .i64 r, .agg #[.bool b2, .slice a2 n2 c2, .int .i64 E'], .int .i64 f] w fun e w' => e = .returned (.bool true) ∧ Below w.heap.size w w' := by
  rcases h with ⟨rfl, h2, rfl⟩ | ⟨rfl, h2⟩
  · exact alike8_ok b a n c ex r b2 a2 n2 c2 M E' base w hD h2
  · obtain ⟨rs, hA, h⟩ := hD
    rcases h with ⟨_, _, _, _, _, h, _⟩ | ⟨rfl, rfl, h4, rfl, _, _⟩ | ⟨_, _, _, _, _, h, _⟩
    · omega
    · rw [h4]; exact alike8_bad 3 b2 a2 n2 c2 E' w (by decide)
    · omega

theorem alike8_q (b : Bool) (a : Option Addr) (n k : Nat) (ex c : Int) (b2 : Bool) (a2 : Option Addr) (n2 c2 : Nat) (E : Int) (w : World) (hq : b = false ∧ a = none ∧ n = 0 ∧ k = 0 ∧ ex = 0 ∧ c = 80) :
    Calls Tryd.prog 15 #[.agg #[.bool b, .slice a n k, .int .i64 ex], .int .i64 c, .agg #[.bool b2, .slice a2 n2 c2, .int .i64 E], .int .i64 80] w fun e w' => e = .returned (.bool true) ∧ Below w.heap.size w w' := by
  obtain ⟨rfl, rfl, rfl, rfl, rfl, rfl⟩ := hq
  exact alike8_bad 80 b2 a2 n2 c2 E w (by decide)

theorem DR.own9 {w : World} {base : Nat} {b : Bool} {va : Value} {ex c M E : Int} (h : DR w base b va ex c M E) : ∃ rs, Ans w base va rs ∧ rs.length ≤ 1048576 := by
  obtain ⟨rs, h1, h2 | h2 | h2⟩ := h
  · exact ⟨rs, h1, few_ofW h2.2.2.2.1 h2.2.2.1 (by have := h2.2.2.2.2.2.1; omega)⟩
  · exact ⟨rs, h1, by rw [h2.2.2.2.2.1]; simp⟩
  · exact ⟨rs, h1, by rw [h2.2.2.2.2.1]; simp⟩

/-- Half of a number, and what Scale makes of it. -/
theorem half_exp {S m : Int} : (if omz S = 0 then oe S m else oe S m + -1) = oe S (m - 1) := by
  unfold oe
  by_cases h : S = 0
  · subst h; simp [omz_zero]
  · rw [if_neg (omz_ne h), if_neg h, if_neg h]; omega

/-- Two boxes. -/
def TwoD (U : World) (o1 o2 : Obj) (s t : Value) (wx : World) : Prop :=
  ∃ (g h : Nat), s = .pointer (some ⟨g, 0, none⟩) ∧ t = .pointer (some ⟨h, 0, none⟩) ∧ wx.heap[g]? = some o1 ∧ wx.heap[h]? = some o2 ∧ g ≠ h ∧ U.heap.size ≤ g ∧ U.heap.size ≤ h ∧ Below U.heap.size U wx

theorem two_d1 {U t : World} (o1 o2 : Obj) (g : Below U.heap.size U t) : TwoD U o1 o2 (.pointer (some ⟨t.heap.size, 0, none⟩)) (.pointer (some ⟨t.heap.size + 1, 0, none⟩)) ((t.alloc o1).alloc o2) := by
  have h2 := heap_alloc_new (t.alloc o1) o2
  rw [World.size_alloc] at h2
  have gs := g.size
  exact ⟨_, _, rfl, rfl, block_upW (below_one6 _ _) (heap_alloc_new t o1), h2, by omega, gs, by omega, bl_alloc8 (bl_alloc8 g _) _⟩

theorem two_d2 {U t : World} (o1 o2 : Obj) (g : Below U.heap.size U t) : TwoD U o1 o2 (.pointer (some ⟨t.heap.size + 1, 0, none⟩)) (.pointer (some ⟨t.heap.size, 0, none⟩)) ((t.alloc o2).alloc o1) := by
  have h2 := heap_alloc_new (t.alloc o2) o1
  rw [World.size_alloc] at h2
  have gs := g.size
  exact ⟨_, _, rfl, rfl, h2, block_upW (below_one6 _ _) (heap_alloc_new t o2), by omega, by omega, gs, bl_alloc8 (bl_alloc8 g _) _⟩

theorem bl_drew9 {W0 W : World} (h : Below W0.heap.size W0 W) : Below W0.heap.size W0 W.drew := h.drew

theorem blen_sum9 {M0 M1 : Int} {a b n g : Nat} (h0 : blen M0.natAbs ≤ n) (h1 : blen M1.natAbs ≤ n) (ha : a ≤ g) (hb : b ≤ g) : blen (M0 * 2 ^ a + M1 * 2 ^ b).natAbs ≤ n + g + 1 := by
  refine (blen_le_iff _ _).2 ?_
  have k0 := (blen_le_iff _ _).1 h0
  have k1 := (blen_le_iff _ _).1 h1
  have c0 : M0.natAbs * 2 ^ a < 2 ^ (n + g) := by
    rw [Nat.pow_add]
    exact Nat.lt_of_lt_of_le (Nat.mul_lt_mul_of_pos_right k0 (Nat.two_pow_pos a)) (Nat.mul_le_mul_left _ (Nat.pow_le_pow_right (by omega) ha))
  have c1 : M1.natAbs * 2 ^ b < 2 ^ (n + g) := by
    rw [Nat.pow_add]
    exact Nat.lt_of_lt_of_le (Nat.mul_lt_mul_of_pos_right k1 (Nat.two_pow_pos b)) (Nat.mul_le_mul_left _ (Nat.pow_le_pow_right (by omega) hb))
  have e := Int.natAbs_add_le (M0 * 2 ^ a) (M1 * 2 ^ b)
  rw [abs_mul9, abs_mul9] at e
  rw [Nat.pow_succ]
  omega

theorem oe_sm_range {M0 E0 M1 E1 : Int} {n : Nat} (h0 : blen M0.natAbs ≤ n) (h1 : blen M1.natAbs ≤ n) (hn : n ≤ 1000000000000) (e01 : -1152921504606846976 ≤ E0) (e02 : E0 ≤ 1152921504606846976) (e11 : -1152921504606846976 ≤ E1) (e12 : E1 ≤ 1152921504606846976) : -1152921504606846976 ≤ oe (sm M0 E0 M1 E1) (min E0 E1) ∧ oe (sm M0 E0 M1 E1) (min E0 E1) ≤ 4611686018427387904 := by
  have hb := blen_sum9 (a := (E0 - min E0 E1).toNat) (b := (E1 - min E0 E1).toNat) (g := 2305843009213693952) h0 h1 (by omega) (by omega)
  have ht := tl_le (sm M0 E0 M1 E1).natAbs
  have e : (sm M0 E0 M1 E1).natAbs = (M0 * 2 ^ (E0 - min E0 E1).toNat + M1 * 2 ^ (E1 - min E0 E1).toNat).natAbs := rfl
  rw [← e] at hb
  unfold oe
  split <;> omega

theorem TwoD.drew {U : World} {o1 o2 : Obj} {s t : Value} {wx : World} (h : TwoD U o1 o2 s t wx) : TwoD U o1 o2 s t wx.drew := by
  obtain ⟨g, h', h1, h2, h3, h4, h5, h6, h7, h8⟩ := h
  exact ⟨g, h', h1, h2, h3, h4, h5, h6, h7, h8.drew⟩

/-- Two boxes that were written. -/
theorem two_s {U t : World} {g h : Nat} {a0 a1 a2 c0 c1 c2 u0 u1 u2 v0 v1 v2 : Value} {ty : TypeId} (h1 : t.heap[g]? = some (.cells #[a0, a1, a2] ty)) (h2 : t.heap[h]? = some (.cells #[c0, c1, c2] ty)) (hne : g ≠ h) (lg : U.heap.size ≤ g) (lh : U.heap.size ≤ h) (hb : Below U.heap.size U t) :
    TwoD U (.cells #[u0, u1, u2] ty) (.cells #[v0, v1, v2] ty) (.pointer (some ⟨g, 0, none⟩)) (.pointer (some ⟨h, 0, none⟩)) ((((((t.setCell ⟨g, 0, none⟩ u0).setCell ⟨g, 1, none⟩ u1).setCell ⟨g, 2, none⟩ u2).setCell ⟨h, 0, none⟩ v0).setCell ⟨h, 1, none⟩ v1).setCell ⟨h, 2, none⟩ v2) := by
  have e1 := tri8_all h1 u0 u1 u2
  have e2 : (((t.setCell ⟨g, 0, none⟩ u0).setCell ⟨g, 1, none⟩ u1).setCell ⟨g, 2, none⟩ u2).heap[h]? = some (.cells #[c0, c1, c2] ty) := by
    rw [Below.heap_setCell _ _ _ _ (Ne.symm hne), Below.heap_setCell _ _ _ _ (Ne.symm hne), Below.heap_setCell _ _ _ _ (Ne.symm hne)]; exact h2
  refine ⟨_, _, rfl, rfl, ?_, tri8_all e2 _ _ _, hne, lg, lh, below_tri8 (below_tri8 hb lg _ _ _) lh _ _ _⟩
  rw [Below.heap_setCell _ _ _ _ hne, Below.heap_setCell _ _ _ _ hne, Below.heap_setCell _ _ _ _ hne]; exact e1

theorem two_s2 {U t : World} {g h : Nat} {a0 a1 a2 c0 c1 c2 u0 u1 u2 v0 v1 v2 : Value} {ty : TypeId} (h1 : t.heap[g]? = some (.cells #[a0, a1, a2] ty)) (h2 : t.heap[h]? = some (.cells #[c0, c1, c2] ty)) (hne : g ≠ h) (lg : U.heap.size ≤ g) (lh : U.heap.size ≤ h) (hb : Below U.heap.size U t) :
    TwoD U (.cells #[u0, u1, u2] ty) (.cells #[v0, v1, v2] ty) (.pointer (some ⟨g, 0, none⟩)) (.pointer (some ⟨h, 0, none⟩)) ((((((t.setCell ⟨h, 0, none⟩ v0).setCell ⟨h, 1, none⟩ v1).setCell ⟨h, 2, none⟩ v2).setCell ⟨g, 0, none⟩ u0).setCell ⟨g, 1, none⟩ u1).setCell ⟨g, 2, none⟩ u2) := by
  have h' := two_s (U := U) (u0 := v0) (u1 := v1) (u2 := v2) (v0 := u0) (v1 := u1) (v2 := u2) h2 h1 (Ne.symm hne) lh lg hb
  obtain ⟨g', h9, e1, e2, e3, e4, e5, e6, e7, e8⟩ := h'
  simp only [Value.pointer.injEq, Option.some.injEq, Addr.mk.injEq, and_true] at e1 e2
  obtain ⟨rfl, _⟩ : h = g' ∧ True := ⟨e1, trivial⟩
  obtain ⟨rfl, _⟩ : g = h9 ∧ True := ⟨e2, trivial⟩
  exact ⟨_, _, rfl, rfl, e4, e3, hne, lg, lh, e8⟩

end Go.Proofs.YtegbjdjpeblkoaaDoor
