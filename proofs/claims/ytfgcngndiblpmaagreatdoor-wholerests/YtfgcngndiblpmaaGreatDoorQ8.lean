/- Plain facts: the divisions by sizes are the document's. -/
import Derived.Test.YtfgcngndiblpmaaGreatDoorQ7
import Derived.Test.YtfgcngndiblpmaaGreatDoorQ6
import Derived.Test.YtfgcngndiblpmaaGreatDoorQ4
import Derived.Test.YtfgcngndiblpmaaGreatDoorQ5
import Derived.Test.YtfgcngndiblpmaaGreatDoorRefPZ
import Derived.Test.YtfgcngndiblpmaaGreatDoorQH
namespace Go.Proofs.YtfgcngndiblpmaaGreatDoor
open Go.RowKit
open Lm

theorem zz_neg_iff (b : Bool) {y : Nat} (hy : 0 < y) : decide (zz b y < 0) = b := by
  cases b
  · simp [zz]
  · simp only [zz, if_true]
    exact decide_eq_true (by omega)

/-- The rest, by the sizes' rest. -/
theorem rest_zz (b1 b2 f : Bool) (x y : Nat) (hy : 0 < y) : zz b1 x - zz (b1 != b2) (x / y + if f then 1 else 0) * zz b2 y = zz (if f then !b1 else b1) (if f then y - x % y else x % y) := by
  have h1 := Nat.div_add_mod x y
  have h2 := Nat.mod_lt x hy
  generalize x / y = q at *
  generalize x % y = r at *
  have h3 : (x : Int) = (y : Int) * (q : Int) + (r : Int) := by rw [← h1]; push_cast; rfl
  have h4 : ((y - r : Nat) : Int) = (y : Int) - (r : Int) := by omega
  cases b1 <;> cases b2 <;> cases f <;> simp only [zz, Bool.false_eq_true, if_false, if_true, bne_self_eq_false, Bool.not_true, Bool.not_false, Nat.add_zero, Bool.true_bne, Bool.false_bne, h4, h3] <;> push_cast <;> grind

theorem flq_zz (b1 b2 : Bool) (x y : Nat) (hy : 0 < y) : flq (zz b1 x) (zz b2 y) = zz (b1 != b2) (x / y + if (b1 != b2) && decide (0 < x % y) then 1 else 0) := by
  unfold flq
  rw [zz_abs, zz_abs, zz_neg_iff b2 hy]
  rcases Nat.eq_zero_or_pos x with hx | hx
  · subst hx
    simp only [Nat.zero_div, Nat.zero_mod, zz_zero, Nat.lt_irrefl, decide_false, Bool.and_false, Bool.false_eq_true, if_false, Nat.add_zero, ne_eq, not_true, Bool.false_and, Int.sub_zero]
  · rw [zz_neg_iff b1 hx]
    generalize x / y = q
    generalize x % y = r
    rcases Nat.eq_zero_or_pos r with hr | hr
    · subst hr
      simp
    · have e1 : decide (r ≠ 0) = true := decide_eq_true (by omega)
      have e2 : decide (0 < r) = true := decide_eq_true hr
      rw [e1, e2]
      cases b1 <;> cases b2 <;> simp [zz] <;> omega

theorem zz_eq_zero {b : Bool} {x : Nat} : zz b x = 0 ↔ x = 0 := by cases b <;> simp [zz]

theorem rest_zero (b1 b2 : Bool) (x y : Nat) (hy : 0 < y) : (zz b1 x - flq (zz b1 x) (zz b2 y) * zz b2 y = 0) ↔ x % y = 0 := by
  have h2 := Nat.mod_lt x hy
  rw [flq_zz b1 b2 x y hy, rest_zz b1 b2 _ x y hy, zz_eq_zero]
  generalize x % y = r at *
  by_cases hr : r = 0
  · subst hr
    simp
  · split <;> omega

theorem ceq_zz (b1 b2 : Bool) (x y : Nat) (hy : 0 < y) : ceq (zz b1 x) (zz b2 y) = zz (b1 != b2) (x / y + if (!(b1 != b2)) && decide (0 < x % y) then 1 else 0) := by
  unfold ceq
  by_cases hr : x % y = 0
  · rw [if_pos ((rest_zero b1 b2 x y hy).2 hr), flq_zz b1 b2 x y hy, hr]
    simp
  · rw [if_neg (fun h => hr ((rest_zero b1 b2 x y hy).1 h)), flq_zz b1 b2 x y hy]
    have e2 : decide (0 < x % y) = true := decide_eq_true (by omega)
    rw [e2]
    generalize x / y = q
    cases b1 <;> cases b2 <;> simp [zz] <;> omega

theorem quq_zz (b1 b2 : Bool) (x y : Nat) (hy : 0 < y) : quq (zz b1 x) (zz b2 y) = zz (b1 != b2) (x / y) := by
  unfold quq
  rw [zz_neg_iff b2 hy, flq_zz b1 b2 x y hy, ceq_zz b1 b2 x y hy]
  rcases Nat.eq_zero_or_pos x with hx | hx
  · subst hx
    simp [zz_zero]
  · rw [zz_neg_iff b1 hx]
    cases b1 <;> cases b2 <;> simp

theorem euq_zz (b1 b2 : Bool) (x y : Nat) (hy : 0 < y) : euq (zz b1 x) (zz b2 y) = zz (b1 != b2) (x / y + if b1 && decide (0 < x % y) then 1 else 0) := by
  unfold euq
  rw [flq_zz b1 b2 x y hy, ceq_zz b1 b2 x y hy]
  have h := zz_neg_iff b2 hy
  cases b2
  · rw [if_neg (of_decide_eq_false h)]
    cases b1 <;> simp
  · rw [if_pos (of_decide_eq_true h)]
    cases b1 <;> simp

theorem neq_zz (b1 b2 : Bool) (x y : Nat) (hy : 0 < y) : neq (zz b1 x) (zz b2 y) = zz (b1 != b2) (x / y + if nearB (x / y) (x % y) (y - x % y) && decide (0 < x % y) then 1 else 0) := by
  have h2 := Nat.mod_lt x hy
  unfold neq nearC
  rw [zz_abs, flq_zz b1 b2 x y hy, rest_zz b1 b2 _ x y hy, zz_abs, zz_abs]
  unfold nearB
  generalize x / y = q
  generalize x % y = r at *
  rcases Nat.eq_zero_or_pos r with hr | hr
  · subst hr
    have e3 : decide (0 * 2 = y) = false := decide_eq_false (by omega)
    simp [e3]
  · have e2 : decide (0 < r) = true := decide_eq_true hr
    rw [e2]
    simp only [Bool.and_true]
    cases hs : (b1 != b2)
    · simp only [Bool.false_eq_true, if_false, Nat.add_zero]
      have a1 : decide (y < r * 2) = decide (y - r < r) := by rw [decide_eq_decide]; omega
      have a2 : decide (r * 2 = y) = decide (r = y - r) := by rw [decide_eq_decide]; omega
      rw [a1, a2]
      split <;> simp [zz]
    · simp only [if_true]
      by_cases c1 : y - r < r
      · have a1 : decide (y < (y - r) * 2) = false := decide_eq_false (by omega)
        have a2 : decide ((y - r) * 2 = y) = false := decide_eq_false (by omega)
        rw [a1, a2, decide_eq_true c1]
        simp
      · by_cases c2 : r = y - r
        · have a1 : decide (y < (y - r) * 2) = false := decide_eq_false (by omega)
          have a2 : decide ((y - r) * 2 = y) = true := decide_eq_true (by omega)
          rw [a1, a2, decide_eq_false c1, decide_eq_true c2]
          simp only [Bool.false_or, Bool.true_and]
          rcases Nat.mod_two_eq_zero_or_one q with hq | hq
          · have b1' : decide ((q + 1) % 2 = 1) = true := decide_eq_true (by omega)
            have b2' : decide (q % 2 = 1) = false := decide_eq_false (by omega)
            rw [b1', b2']
            simp [zz]; omega
          · have b1' : decide ((q + 1) % 2 = 1) = false := decide_eq_false (by omega)
            have b2' : decide (q % 2 = 1) = true := decide_eq_true hq
            rw [b1', b2']
            simp
        · have a1 : decide (y < (y - r) * 2) = true := decide_eq_true (by omega)
          rw [a1, decide_eq_false c1, decide_eq_false c2]
          simp [zz]; omega

end Go.Proofs.YtfgcngndiblpmaaGreatDoor

/- Plain facts of the law WholeMakes. -/
namespace Go.Proofs.YtfgcngndiblpmaaGreatDoor
open Go.RowKit
open Lm
attribute [local go_sem ↓] Go.wp_at_zero Go.wp_at_succ

theorem ZA.zr {w : World} {base : Nat} {b : Bool} {u : Value} {z : Int} (h : ZA w base b u z) (hb : blen z.natAbs ≤ 67108864) : ZR w base b u 0 z := by
  obtain ⟨rs, h1, h2, h3, h4⟩ := h
  exact ⟨rs, h1, .inl ⟨rfl, h2, h3, h4, hb⟩⟩

theorem ZR.few {rs : List Nat} {b : Bool} {va : Value} {c z : Int} (h : (c = 0 ∧ b = decide (z < 0) ∧ val rs = z.natAbs ∧ tr rs = rs ∧ blen z.natAbs ≤ 67108864) ∨ (c = 3 ∧ b = false ∧ va = .slice none 0 0 ∧ rs = [] ∧ 67108864 < blen z.natAbs)) : rs.length ≤ 1048576 := by
  rcases h with ⟨_, _, h3, h4, h5⟩ | ⟨_, _, _, h4, _⟩
  · exact few_ofW h4 h3 (by omega)
  · rw [h4]; simp

theorem Zn.inv {w : World} {b : Bool} {u : Value} {z : Int} (h : Zn w (.agg #[.bool b, u]) z) : b = decide (z < 0) ∧ Num w u z.natAbs := by
  obtain ⟨u', h1, h2⟩ := h
  simp only [Value.agg.injEq, Array.mk.injEq, List.cons.injEq, Value.bool.injEq, and_true] at h1
  obtain ⟨rfl, rfl⟩ := h1
  exact ⟨rfl, h2⟩

theorem rlimbs6 (v : Value) (x : Nat) (w : World) (h : Num w v x) (hb : blen x ≤ 1125899906809856) :
    Calls Tryz.prog 82 #[v] w fun e w' => (∃ a n k rs, e = .returned (.slice a n k) ∧ Arg w' (.slice a n k) rs ∧ val rs = x ∧ tr rs = rs) ∧ Below w.heap.size w w' := by
  obtain ⟨ds, hd1, hd2, hd3, hd4, hd5⟩ := h
  have hl := num_len hd2 hd3 35184372087808 (by rw [hd4]; omega)
  have hp := pairs_length ds
  refine (limbs_any v ds w hd1 hd2 (by omega)).mono ?_
  rintro e w' ⟨⟨v', rfl, hans⟩, hbel⟩
  obtain ⟨a, k, rfl⟩ := hans.shape
  exact ⟨⟨a, _, k, pairs ds, rfl, hans.arg (by omega), by rw [pairs_val, hd4], pairs_tr ds hd3⟩, hbel⟩

theorem isTail_once {x t u : Nat} (h : IsTail x t) (k : IsTail x u) : t = u := by
  rcases Nat.lt_trichotomy t u with hl | hl | hl
  · have := tail_low k hl
    have := h.2
    omega
  · exact hl
  · have := tail_low h hl
    have := k.2
    omega

theorem int_few {n : Int} (h1 : -9223372036854775808 ≤ n) (h2 : n ≤ 9223372036854775807) : blen n.natAbs ≤ 64 := by
  refine (blen_le_iff _ _).2 ?_
  have : (2 : Nat) ^ 64 = 18446744073709551616 := by decide
  omega

/-- Is it an int: as the law asks. -/
theorem fits_small {z : Int} {t : Nat} (ht : (z.natAbs = 0 ∧ t = 0) ∨ IsTail z.natAbs t) : FitsInt z ↔ (blen z.natAbs < 64 ∨ (z < 0 ∧ blen z.natAbs = 64 ∧ t = 63)) := by
  have h63 := blen_le_iff z.natAbs 63
  have h64 := blen_le_iff z.natAbs 64
  unfold FitsInt
  have e63 : (2 : Nat) ^ 63 = 9223372036854775808 := by decide
  have e64 : (2 : Nat) ^ 64 = 18446744073709551616 := by decide
  rw [e63] at h63
  rw [e64] at h64
  constructor
  · intro ⟨h1, h2⟩
    by_cases hs : z.natAbs < 9223372036854775808
    · exact .inl (by have := h63.2 hs; omega)
    · have hz : z.natAbs = 9223372036854775808 := by omega
      refine .inr ⟨by omega, ?_, ?_⟩
      · have a := h64.2 (by omega)
        have b : ¬ blen z.natAbs ≤ 63 := fun h => hs (h63.1 h)
        omega
      · rcases ht with ⟨h0, _⟩ | ht
        · omega
        · rw [hz] at ht
          exact isTail_once ht ⟨by decide, by decide⟩
  · rintro (h | ⟨h1, h2, h3⟩)
    · have := h63.1 (by omega)
      omega
    · subst h3
      rcases ht with ⟨h0, _⟩ | ht
      · omega
      · have a := h64.1 (by omega)
        have b := ht.1
        rw [e63] at b
        omega

end Go.Proofs.YtfgcngndiblpmaaGreatDoor

/- Plain facts of the law WholeQuos: an array of ten of the document's numbers; ten answers that lie apart. -/
namespace Go.Proofs.YtfgcngndiblpmaaGreatDoor
open Go.RowKit
open Lm
attribute [local go_sem ↓] Go.wp_at_zero Go.wp_at_succ

theorem DivR.below {w w' : World} {base : Nat} {b1 : Bool} {v1 : Value} {b2 : Bool} {v2 : Value} {c qz rz : Int} (h : DivR w base b1 v1 b2 v2 c qz rz) (hb : Below w.heap.size w w') : DivR w' base b1 v1 b2 v2 c qz rz := by
  obtain ⟨rs1, rs2, h1, h2, h3⟩ := h
  exact ⟨rs1, rs2, h1.below hb, h2.below hb, h3⟩

theorem DivR.few {rs1 rs2 : List Nat} {b1 b2 : Bool} {v1 v2 : Value} {c qz rz : Int} (h : (c = 0 ∧ b1 = decide (qz < 0) ∧ val rs1 = qz.natAbs ∧ tr rs1 = rs1 ∧ b2 = decide (rz < 0) ∧ val rs2 = rz.natAbs ∧ tr rs2 = rs2 ∧ blen qz.natAbs ≤ 67108864 ∧ blen rz.natAbs ≤ 67108864) ∨ (c = 3 ∧ b1 = false ∧ v1 = .slice none 0 0 ∧ b2 = false ∧ v2 = .slice none 0 0 ∧ rs1 = [] ∧ rs2 = [] ∧ (67108864 < blen qz.natAbs ∨ 67108864 < blen rz.natAbs))) : rs1.length ≤ 1048576 ∧ rs2.length ≤ 1048576 := by
  rcases h with ⟨_, _, h3, h4, _, h6, h7, h8, h9⟩ | ⟨_, _, _, _, _, h4, h5, _⟩
  · exact ⟨few_ofW h4 h3 (by omega), few_ofW h7 h6 (by omega)⟩
  · rw [h4, h5]; simp

theorem Aparts.two {w w' : World} {base : Nat} {vs : List Value} {rss : List (List Nat)} {v1 v2 : Value} {r1 r2 : List Nat} (h : Aparts w base vs rss) (hb : Below w.heap.size w w') (hbase : base ≤ w.heap.size) (h1 : Ans w' w.heap.size v1 r1) (h2 : Ans w' w.heap.size v2 r2) (hap : v1.ownBlock = none ∨ v1.ownBlock ≠ v2.ownBlock) : Aparts w' base (vs ++ [v1, v2]) (rss ++ [r1, r2]) := by
  have e0 : ∀ i, i < vs.length → (vs ++ [v1, v2]).getD i nilV = vs.getD i nilV := fun i hi => by simp [List.getD, List.getElem?_append_left hi]
  have e1 : (vs ++ [v1, v2]).getD vs.length nilV = v1 := by simp [List.getD]
  have e2 : (vs ++ [v1, v2]).getD (vs.length + 1) nilV = v2 := by simp [List.getD]
  have f0 : ∀ i, i < rss.length → (rss ++ [r1, r2]).getD i [] = rss.getD i [] := fun i hi => by simp [List.getD, List.getElem?_append_left hi]
  have f1 : (rss ++ [r1, r2]).getD rss.length [] = r1 := by simp [List.getD]
  have f2 : (rss ++ [r1, r2]).getD (rss.length + 1) [] = r2 := by simp [List.getD]
  have hl := h.len
  have old : ∀ i, i < vs.length → ∀ u : Value, (∀ g, u.ownBlock = some g → w.heap.size ≤ g) → (vs.getD i nilV).ownBlock = none ∨ (vs.getD i nilV).ownBlock ≠ u.ownBlock := by
    intro i hi u hu
    rcases ho : (vs.getD i nilV).ownBlock with _ | g
    · exact .inl rfl
    · have k1 := (h.row i hi).top g ho
      refine .inr fun e => ?_
      have k2 := hu g e.symm
      omega
  have new : ∀ i, i < vs.length → ∀ u : Value, (∀ g, u.ownBlock = some g → w.heap.size ≤ g) → u.ownBlock = none ∨ u.ownBlock ≠ (vs.getD i nilV).ownBlock := by
    intro i hi u hu
    rcases ho : u.ownBlock with _ | g
    · exact .inl rfl
    · have k2 := hu g ho
      refine .inr fun e => ?_
      have k1 := (h.row i hi).top g e.symm
      omega
  have n1 : ∀ g, v1.ownBlock = some g → w.heap.size ≤ g := fun g hg => (h1.own.lt g hg).1
  have n2 : ∀ g, v2.ownBlock = some g → w.heap.size ≤ g := fun g hg => (h2.own.lt g hg).1
  refine ⟨by simp [hl], fun i hi => ?_, fun i j hi hj hij => ?_⟩
  · simp only [List.length_append, List.length_cons, List.length_nil] at hi
    rcases Nat.lt_trichotomy i vs.length with h3 | h3 | h3
    · rw [e0 i h3, f0 i (by omega)]
      exact (h.row i h3).below hb
    · subst h3
      rw [e1, hl, f1]
      exact h1.base hbase
    · obtain rfl : i = vs.length + 1 := by omega
      rw [e2, hl, f2]
      exact h2.base hbase
  · simp only [List.length_append, List.length_cons, List.length_nil] at hi hj
    rcases Nat.lt_trichotomy i vs.length with h3 | h3 | h3 <;> rcases Nat.lt_trichotomy j vs.length with h4 | h4 | h4
    · rw [e0 i h3, e0 j h4]; exact h.apart i j h3 h4 hij
    · rw [e0 i h3, h4, e1]; exact old i h3 _ n1
    · obtain rfl : j = vs.length + 1 := by omega
      rw [e0 i h3, e2]; exact old i h3 _ n2
    · rw [e0 j h4, h3, e1]; exact new j h4 _ n1
    · omega
    · obtain rfl : j = vs.length + 1 := by omega
      rw [h3, e1, e2]; exact hap
    · obtain rfl : i = vs.length + 1 := by omega
      rw [e0 j h4, e2]; exact new j h4 _ n2
    · obtain rfl : i = vs.length + 1 := by omega
      rw [h4, e2, e1]
      rcases ho : v2.ownBlock with _ | g
      · exact .inl rfl
      · refine .inr fun e => ?_
        rcases hap with k | k
        · rw [k] at e; cases e
        · exact k (by rw [ho, e])
    · omega

theorem Aparts.nil (w : World) (base : Nat) : Aparts w base [] [] := ⟨rfl, fun i hi => absurd hi (by simp), fun i j hi => absurd hi (by simp)⟩

/-- Cells of which none is a number of the machine. -/
def NoInt (cs : Array Value) : Prop := ∀ (k : Nat) (kd : IntKind) (n : Int), cs[k]? ≠ some (.int kd n)

theorem NoInt.set {cs : Array Value} (h : NoInt cs) (k : Nat) {u : Value} (hu : ∀ kd n, u ≠ .int kd n) : NoInt (cs.setIfInBounds k u) := by
  intro j kd n e
  rw [Array.getElem?_setIfInBounds] at e
  split at e
  · split at e
    · simp only [Option.some.injEq] at e
      exact hu kd n e
    · cases e
  · exact h j kd n e

theorem Lies.off {w : World} {ao : Option Addr} {zs : List Nat} {g o : Nat} {cs : Array Value} {t : TypeId} {u : Value} (h : Lies w ao zs) (hl : w.heap[g]? = some (.cells cs t)) (hn : NoInt cs) : Lies (w.setCell ⟨g, o, none⟩ u) ao zs := by
  rcases h with h | ⟨b, off, rfl, hc⟩
  · exact .inl h
  · rcases Nat.eq_zero_or_pos zs.length with h0 | h0
    · exact .inl (List.eq_nil_of_length_eq_zero h0)
    · refine .inr ⟨b, off, rfl, fun k hk => ?_⟩
      rw [cell_otherW]
      · exact hc k hk
      · rintro rfl
        have h1 := hc 0 h0
        rw [Nat.add_zero] at h1
        simp only [World.cell?, hl] at h1
        exact hn _ _ _ h1

theorem Zn.off {w : World} {v : Value} {z : Int} {g o : Nat} {cs : Array Value} {t : TypeId} {u : Value} (h : Zn w v z) (hl : w.heap[g]? = some (.cells cs t)) (hn : NoInt cs) : Zn (w.setCell ⟨g, o, none⟩ u) v z := by
  obtain ⟨v', h1, ds, hA, hr⟩ := h
  obtain ⟨ao, cap, k1, k2, k3, k4⟩ := hA.form
  exact ⟨v', h1, ds, ⟨⟨ao, cap, k1, k2, k3, k4.off hl hn⟩, hA.limbs, hA.few, hA.nz⟩, hr⟩

/-- The array of ten of the document's numbers. -/
structure ZB (w : World) (g : Nat) (cs : Array Value) : Prop where
  blk : w.heap[g]? = some (.cells cs 35)
  no : NoInt cs

theorem ZB.below {w w' : World} {g : Nat} {cs : Array Value} (h : ZB w g cs) (hb : Below w.heap.size w w') : ZB w' g cs := ⟨block_upW hb h.blk, h.no⟩

theorem ZB.frozen {w : World} {g : Nat} {cs : Array Value} (h : ZB w g cs) : ∀ k, w.frozen? ⟨g, k, none⟩ = false := fun k => by simp [World.frozen?, h.blk]

theorem ZB.cell {w : World} {g : Nat} {cs : Array Value} (h : ZB w g cs) (k : Nat) : w.cell? ⟨g, k, none⟩ = cs[k]? := by simp [World.cell?, h.blk]

theorem noInt_ten : NoInt #[.bool false, .slice none 0 0, .bool false, .slice none 0 0, .bool false, .slice none 0 0, .bool false, .slice none 0 0, .bool false, .slice none 0 0, .bool false, .slice none 0 0, .bool false, .slice none 0 0, .bool false, .slice none 0 0, .bool false, .slice none 0 0, .bool false, .slice none 0 0] := by
  intro k kd n
  by_cases hk : k < 20
  · rcases k with _ | _ | _ | _ | _ | _ | _ | _ | _ | _ | _ | _ | _ | _ | _ | _ | _ | _ | _ | _ | k <;> first | omega | (intro e; simp at e)
  · rw [Array.getElem?_eq_none (by simpa using hk)]
    intro e
    cases e

theorem zn_nil (w : World) : Zn w (.agg #[.bool false, .slice none 0 0]) 0 :=
  ⟨_, rfl, [], ⟨⟨none, 0, rfl, by simp, by simp, .inl rfl⟩, (by intro z hz; cases hz), by simp, fun n c e => by cases e; rfl⟩, (by intro z hz; cases hz), rfl, rfl, by simp⟩

theorem aparts_nils (w : World) (base : Nat) : Aparts w base [.slice none 0 0, .slice none 0 0, .slice none 0 0, .slice none 0 0, .slice none 0 0, .slice none 0 0, .slice none 0 0, .slice none 0 0, .slice none 0 0, .slice none 0 0] [[], [], [], [], [], [], [], [], [], []] := by
  have hA : Ans w base (.slice none 0 0) [] := Ans.nil w base
  refine ⟨rfl, fun i hi => ?_, fun i j hi hj hij => ?_⟩
  · rcases i with _ | _ | _ | _ | _ | _ | _ | _ | _ | _ | k <;> first | exact hA | (simp at hi)
  · left
    rcases i with _ | _ | _ | _ | _ | _ | _ | _ | _ | _ | k <;> first | rfl | (simp at hi)

/-- Two numbers are stored. -/
theorem ZB.four {w : World} {g : Nat} {cs : Array Value} (h : ZB w g cs) (i j k l : Nat) (b1 : Bool) (a1 : Option Addr) (n1 k1 : Nat) (b2 : Bool) (a2 : Option Addr) (n2 k2 : Nat) :
    ZB ((((w.setCell ⟨g, i, none⟩ (.bool b1)).setCell ⟨g, j, none⟩ (.slice a1 n1 k1)).setCell ⟨g, k, none⟩ (.bool b2)).setCell ⟨g, l, none⟩ (.slice a2 n2 k2)) g ((((cs.setIfInBounds i (.bool b1)).setIfInBounds j (.slice a1 n1 k1)).setIfInBounds k (.bool b2)).setIfInBounds l (.slice a2 n2 k2)) ∧
    (∀ v z, Zn w v z → Zn ((((w.setCell ⟨g, i, none⟩ (.bool b1)).setCell ⟨g, j, none⟩ (.slice a1 n1 k1)).setCell ⟨g, k, none⟩ (.bool b2)).setCell ⟨g, l, none⟩ (.slice a2 n2 k2)) v z) ∧
    (∀ B w0, Below B w0 w → B ≤ g → Below B w0 ((((w.setCell ⟨g, i, none⟩ (.bool b1)).setCell ⟨g, j, none⟩ (.slice a1 n1 k1)).setCell ⟨g, k, none⟩ (.bool b2)).setCell ⟨g, l, none⟩ (.slice a2 n2 k2))) := by
  have h1 := box_modify (k := i) h.blk (.bool b1)
  have m1 := h.no.set i (u := .bool b1) (fun _ _ e => by cases e)
  have h2 := box_modify (k := j) h1 (.slice a1 n1 k1)
  have m2 := m1.set j (u := .slice a1 n1 k1) (fun _ _ e => by cases e)
  have h3 := box_modify (k := k) h2 (.bool b2)
  have m3 := m2.set k (u := .bool b2) (fun _ _ e => by cases e)
  have h4 := box_modify (k := l) h3 (.slice a2 n2 k2)
  have m4 := m3.set l (u := .slice a2 n2 k2) (fun _ _ e => by cases e)
  refine ⟨⟨h4, m4⟩, fun v z hz => (((hz.off h.blk h.no).off h1 m1).off h2 m2).off h3 m3, fun B w0 hb hg => ?_⟩
  exact (((hb.setCell (p := ⟨g, i, none⟩) hg _).setCell (p := ⟨g, j, none⟩) hg _).setCell (p := ⟨g, k, none⟩) hg _).setCell (p := ⟨g, l, none⟩) hg _

/-- The five quotients of the program, by the sizes' quotient: which sign, and whether one further. -/
theorem quo_both (b1 b2 f : Bool) (x y : Nat) (hy : 0 < y) (q : Int) (hq : q = zz (b1 != b2) (x / y + if f && decide (0 < x % y) then 1 else 0)) :
    zz b1 x - q * zz b2 y = zz (if f && decide (0 < x % y) then !b1 else b1) (if f && decide (0 < x % y) then y - x % y else x % y) := by
  rw [hq]
  exact rest_zz b1 b2 _ x y hy

end Go.Proofs.YtfgcngndiblpmaaGreatDoor
