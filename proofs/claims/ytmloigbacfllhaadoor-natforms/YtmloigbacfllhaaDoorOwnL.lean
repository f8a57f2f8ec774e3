/- Own, of answers that were made one after another; Lend and Kept, as the laws use them. -/
import Derived.Test.YtmloigbacfllhaaDoorOwnC
import Derived.Test.YtmloigbacfllhaaDoorRefC
namespace Go.Proofs.YtmloigbacfllhaaDoor
open Go.RowKit
open Lm

/-- Answers one after another: each one's block lies below those of the later ones. -/
def Chain (w : World) : Nat → List Value → List (List Nat) → Prop
  | _, [], [] => True
  | b, v :: vs, r :: rs => ∃ b', (b ≤ b' ∧ b' ≤ w.heap.size) ∧ Ans w b v r ∧ (∀ g, v.ownBlock = some g → g < b') ∧ Chain w b' vs rs
  | _, _, _ => False

theorem Ans.top {w : World} {base : Nat} {v : Value} {zs : List Nat} (h : Ans w base v zs) : ∀ g, v.ownBlock = some g → g < w.heap.size := fun g hg => (h.own.lt g hg).2

theorem Ans.slice {w : World} {base : Nat} {v : Value} {zs : List Nat} (h : Ans w base v zs) : ∃ ao n cap, v = .slice ao n cap := by
  rcases h.form with ⟨rfl, _⟩ | ⟨g, cap, rfl, _⟩
  · exact ⟨_, _, _, rfl⟩
  · exact ⟨_, _, _, rfl⟩

theorem blen_val_le (zs : List Nat) (h : Limbs zs) : blen (val zs) ≤ 64 * zs.length := by
  rw [blen_le_iff, Nat.mul_comm]
  have := val_lt h
  rwa [W_pow] at this

theorem hid_below {w a b : World} (h : Hid (Below w.heap.size w a)) (hb : Below a.heap.size a b) : Hid (Below w.heap.size w b) := h.out.trans (hb.mono h.out.size)

theorem Same.top {a b : World} (h : Same a b) : Below a.heap.size a b := h.below _

theorem Arg.bits {w : World} {v : Value} {zs : List Nat} (h : Arg w v zs) (hf : zs.length ≤ 17592186043904) : blen (val zs) ≤ 1125899906809856 := by
  have := blen_val_le zs h.limbs
  omega

theorem Chain.length {w : World} : ∀ {b : Nat} {vs : List Value} {rs : List (List Nat)}, Chain w b vs rs → vs.length = rs.length
  | _, [], [], _ => rfl
  | _, _ :: _, _ :: _, ⟨_, _, _, _, h⟩ => by simp [h.length]
  | _, [], _ :: _, h => h.elim
  | _, _ :: _, [], h => h.elim

theorem Chain.row {w : World} : ∀ {b : Nat} {vs : List Value} {rs : List (List Nat)}, Chain w b vs rs → ∀ i, i < vs.length → Ans w b (vs.getD i nilV) (rs.getD i [])
  | _, [], _, _, i, hi => absurd hi (by simp)
  | _, _ :: _, [], h, _, _ => h.elim
  | _, v :: vs, r :: rs, ⟨b', h1, h2, h3, h4⟩, i, hi => by
    cases i with
    | zero => exact h2
    | succ i => exact (h4.row i (by simpa using hi)).base h1.1

theorem Chain.from {w : World} {b : Nat} {vs : List Value} {rs : List (List Nat)} (h : Chain w b vs rs) (i : Nat) (hi : i < vs.length) (g : Nat) (hg : (vs.getD i nilV).ownBlock = some g) : b ≤ g := ((h.row i hi).own.lt g hg).1

theorem Chain.apart {w : World} : ∀ {b : Nat} {vs : List Value} {rs : List (List Nat)}, Chain w b vs rs → ∀ i j, i < vs.length → j < vs.length → i ≠ j → (vs.getD i nilV).ownBlock = none ∨ (vs.getD i nilV).ownBlock ≠ (vs.getD j nilV).ownBlock
  | _, [], _, _, i, _, hi, _, _ => absurd hi (by simp)
  | _, _ :: _, [], h, _, _, _, _, _ => h.elim
  | _, v :: vs, r :: rs, ⟨b', h1, h2, h3, h4⟩, i, j, hi, hj, hij => by
    cases i with
    | zero =>
      cases j with
      | zero => exact absurd rfl hij
      | succ j =>
        show v.ownBlock = none ∨ v.ownBlock ≠ (vs.getD j nilV).ownBlock
        cases hv : v.ownBlock with
        | none => exact .inl rfl
        | some g =>
          refine .inr fun e => ?_
          have a := h3 g hv
          have b := h4.from j (by simpa using hj) g e.symm
          omega
    | succ i =>
      cases j with
      | zero =>
        show (vs.getD i nilV).ownBlock = none ∨ (vs.getD i nilV).ownBlock ≠ v.ownBlock
        cases hv : (vs.getD i nilV).ownBlock with
        | none => exact .inl rfl
        | some g =>
          refine .inr fun e => ?_
          have a := h3 g e.symm
          have b := h4.from i (by simpa using hi) g hv
          omega
      | succ j => exact h4.apart i j (by simpa using hi) (by simpa using hj) (by omega)

theorem Chain.below {w w' : World} (hb : Below w.heap.size w w') : ∀ {b : Nat} {vs : List Value} {rs : List (List Nat)}, Chain w b vs rs → Chain w' b vs rs
  | _, [], [], _ => trivial
  | _, _ :: _, _ :: _, ⟨b', h1, h2, h3, h4⟩ => ⟨b', ⟨h1.1, Nat.le_trans h1.2 hb.size⟩, h2.below hb, h3, Chain.below hb h4⟩
  | _, [], _ :: _, h => h.elim
  | _, _ :: _, [], h => h.elim

theorem Chain.snoc {w w' : World} {v : Value} {r : List Nat} (hb : Below w.heap.size w w') (ha : Ans w' w.heap.size v r) : ∀ {b : Nat} {vs : List Value} {rs : List (List Nat)}, Chain w b vs rs → b ≤ w.heap.size → Chain w' b (vs ++ [v]) (rs ++ [r])
  | _, [], [], _, hl => ⟨w'.heap.size, ⟨Nat.le_trans hl hb.size, Nat.le_refl _⟩, ha.base hl, ha.top, trivial⟩
  | _, _ :: _, _ :: _, ⟨b', h1, h2, h3, h4⟩, _ => ⟨b', ⟨h1.1, Nat.le_trans h1.2 hb.size⟩, h2.below hb, h3, Chain.snoc hb ha h4 h1.2⟩
  | _, [], _ :: _, h, _ => h.elim
  | _, _ :: _, [], h, _ => h.elim

theorem Chain.one {w : World} {b : Nat} {v : Value} {r : List Nat} (h : Ans w b v r) (hb : b ≤ w.heap.size) : Chain w b [v] [r] := ⟨w.heap.size, ⟨hb, Nat.le_refl _⟩, h, h.top, trivial⟩

theorem own_chain (base : Nat) (vs : List Value) (rss : List (List Nat)) (w : World) (h : Chain w base vs rss) (hn : vs.length ≤ 1000) (hl : ∀ r ∈ rss, r.length ≤ 17592186044000) (hb : base ≤ w.heap.size) :
    Calls Tryd.prog 12 #[.slice (some ⟨w.heap.size, 0, none⟩) vs.length vs.length] (w.alloc (.cells vs.toArray 22)) fun e w' => e = .returned (.bool true) ∧ Below base w w' := by
  have hst : St (w.alloc (.cells vs.toArray 22)) base w.heap.size vs (fun i => rss.getD i []) := by
    have h' := h.below ((Below.refl _ _).alloc (Nat.le_refl _) (.cells vs.toArray 22))
    exact ⟨by rw [heap_alloc_new], h'.row, h'.apart⟩
  refine (own_any w.heap.size base vs (fun i => rss.getD i []) _ hst hn ?_ hb).mono ?_
  · intro i hi
    have hi' : i < rss.length := by rw [← h.length]; exact hi
    show (rss.getD i []).length ≤ _
    have e : rss.getD i [] = rss[i] := by simp [List.getD, hi']
    rw [e]
    exact hl _ (List.getElem_mem _)
  · rintro e w' ⟨rfl, hbel⟩
    exact ⟨rfl, ((Below.refl _ _).alloc hb _).trans hbel⟩

/-- A list that was lent: it lies within a greater one. -/
def Lent (w : World) (vw : Value) (zs : List Nat) : Prop := ∃ g, vw = .slice (some ⟨g, 0, none⟩) (zs.length + 4) (zs.length + 4) ∧ Blk w g (lent zs)

theorem Lent.below {w w' : World} {vw : Value} {zs : List Nat} (h : Lent w vw zs) (hb : Below w.heap.size w w') : Lent w' vw zs := by
  obtain ⟨g, h1, h2⟩ := h
  refine ⟨g, h1, ?_⟩
  unfold Blk
  rw [hb.block g h2.lt]; exact h2

theorem lend_ok (v : Value) (zs : List Nat) (w : World) (h : Arg w v zs) (hf : zs.length ≤ 35184372088000) :
    Calls Tryd.prog 8 #[v] w fun e w' => (∃ vw vp, e = .returned (.tuple #[vw, vp]) ∧ Lent w' vw zs ∧ Arg w' vp zs) ∧ Below w.heap.size w w' := by
  refine (lend_any v zs w h hf).mono ?_
  rintro e w' ⟨rfl, hb, hbel⟩
  refine ⟨⟨_, _, rfl, ⟨_, rfl, hb⟩, ⟨_, _, rfl, by omega, by omega, .inr ⟨_, 2, rfl, fun k hk => ?_⟩⟩, h.limbs, h.few, fun n c e => by cases e⟩, hbel⟩
  rw [hb.cell (2 + k) (by rw [lent_length]; omega), Nat.add_comm 2 k, lent_mid zs k hk]

theorem kept_ok (vw va : Value) (zs : List Nat) (w : World) (hl : Lent w vw zs) (ha : Arg w va zs) (hf : zs.length ≤ 35184372088000) :
    Calls Tryd.prog 13 #[vw, va] w fun e w' => e = .returned (.bool true) ∧ w' = w := by
  obtain ⟨g, rfl, hb⟩ := hl
  exact kept_any g va zs w hb ha hf

theorem Res.few {w : World} {base : Nat} {v : Value} {c : Int} {rs : List Nat} {s : Nat} (_ : Ans w base v rs) (h : (c = 0 ∧ val rs = s ∧ tr rs = rs ∧ blen s ≤ 67108864) ∨ (c = 3 ∧ rs = [] ∧ 67108864 < blen s)) : rs.length ≤ 1048576 := by
  rcases h with ⟨_, hv, ht, hs⟩ | ⟨_, rfl, _⟩
  · have := few_limbs rs 1048576 (by rw [hv]; omega)
    rwa [ht] at this
  · simp

end Go.Proofs.YtmloigbacfllhaaDoor
