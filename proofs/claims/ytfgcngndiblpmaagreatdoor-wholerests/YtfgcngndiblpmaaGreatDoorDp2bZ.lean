/- Two calls of known answers and two new boxes in one statement that leaves its order open. -/
import Derived.Test.YtfgcngndiblpmaaGreatDoorLWholeSumsZ
namespace Go.Proofs.YtfgcngndiblpmaaGreatDoor
open Go.RowKit
open Lm

theorem box_at_up3 {W W' : World} {u : Nat} {y : Value} {x : Obj} (hb : Below W.heap.size W W') (h : ∃ g, y = .pointer (some ⟨g, 0, none⟩) ∧ u ≤ g ∧ W.heap[g]? = some x) : ∃ g, y = .pointer (some ⟨g, 0, none⟩) ∧ u ≤ g ∧ W'.heap[g]? = some x := by
  obtain ⟨g, h1, h2, h3⟩ := h
  exact ⟨g, h1, h2, block_upW hb h3⟩

theorem box_old3 {W : World} {u : Nat} {y : Value} {x : Obj} (h : ∃ g, y = .pointer (some ⟨g, 0, none⟩) ∧ u ≤ g ∧ W.heap[g]? = some x) : y ≠ .pointer (some ⟨W.heap.size, 0, none⟩) := by
  obtain ⟨g, rfl, _, h3⟩ := h
  intro e
  simp only [Value.pointer.injEq, Option.some.injEq, Addr.mk.injEq, and_true] at e
  have := lt_of_block h3
  omega

structure JW (u : World) (v1 v2 : Value) (c1 c2 k1 k2 : Bool) (x1 x2 y1 y2 : Value) (W : World) : Prop where
  up : Below u.heap.size u W
  ch : c2 = true → c1 = true
  q1 : c1 = true → x1 = v1
  q2 : c2 = true → x2 = v2
  r1 : k1 = true → ∃ g, y1 = .pointer (some ⟨g, 0, none⟩) ∧ u.heap.size ≤ g ∧ W.heap[g]? = some (.cells #[.bool false, .slice none 0 0] 27)
  r2 : k2 = true → ∃ g, y2 = .pointer (some ⟨g, 0, none⟩) ∧ u.heap.size ≤ g ∧ W.heap[g]? = some (.cells #[.bool false, .slice none 0 0] 27)
  d12 : k1 = true → k2 = true → y1 ≠ y2

theorem JW.below {u : World} {v1 v2 : Value} {c1 c2 k1 k2 : Bool} {x1 x2 y1 y2 : Value} {W W' : World} (h : JW u v1 v2 c1 c2 k1 k2 x1 x2 y1 y2 W) (hb : Below W.heap.size W W') : JW u v1 v2 c1 c2 k1 k2 x1 x2 y1 y2 W' :=
  ⟨bl_trans h.up hb, h.ch, h.q1, h.q2, fun e => box_at_up3 hb (h.r1 e), fun e => box_at_up3 hb (h.r2 e), h.d12⟩

theorem JW.call1 {u : World} {v1 v2 : Value} {c1 c2 k1 k2 : Bool} {x1 x2 y1 y2 : Value} {W W' : World} (h : JW u v1 v2 c1 c2 k1 k2 x1 x2 y1 y2 W) (hb : Below W.heap.size W W') : JW u v1 v2 true c2 k1 k2 v1 x2 y1 y2 W' :=
  have j := h.below hb
  ⟨j.up, fun _ => rfl, fun _ => rfl, j.q2, j.r1, j.r2, j.d12⟩

theorem JW.call2 {u : World} {v1 v2 : Value} {c2 k1 k2 : Bool} {x1 x2 y1 y2 : Value} {W W' : World} (h : JW u v1 v2 true c2 k1 k2 x1 x2 y1 y2 W) (hb : Below W.heap.size W W') : JW u v1 v2 true true k1 k2 x1 v2 y1 y2 W' :=
  have j := h.below hb
  ⟨j.up, fun _ => rfl, j.q1, fun _ => rfl, j.r1, j.r2, j.d12⟩

theorem JW.make1 {u : World} {v1 v2 : Value} {c1 c2 k1 k2 : Bool} {x1 x2 y1 y2 : Value} {W : World} (h : JW u v1 v2 c1 c2 k1 k2 x1 x2 y1 y2 W) :
    JW u v1 v2 c1 c2 true k2 x1 x2 (.pointer (some ⟨W.heap.size, 0, none⟩)) y2 (W.alloc (.cells #[.bool false, .slice none 0 0] 27)) :=
  have j := h.below (below_one6 W (.cells #[.bool false, .slice none 0 0] 27))
  ⟨j.up, j.ch, j.q1, j.q2, fun _ => ⟨_, rfl, h.up.size, heap_alloc_new _ _⟩, j.r2, fun _ e => (box_old3 (h.r2 e)).symm⟩

theorem JW.make2 {u : World} {v1 v2 : Value} {c1 c2 k1 k2 : Bool} {x1 x2 y1 y2 : Value} {W : World} (h : JW u v1 v2 c1 c2 k1 k2 x1 x2 y1 y2 W) :
    JW u v1 v2 c1 c2 k1 true x1 x2 y1 (.pointer (some ⟨W.heap.size, 0, none⟩)) (W.alloc (.cells #[.bool false, .slice none 0 0] 27)) :=
  have j := h.below (below_one6 W (.cells #[.bool false, .slice none 0 0] 27))
  ⟨j.up, j.ch, j.q1, j.q2, j.r1, fun _ => ⟨_, rfl, h.up.size, heap_alloc_new _ _⟩, fun e _ => box_old3 (h.r1 e)⟩

theorem JW.start {u : World} (v1 v2 x1 x2 y1 y2 : Value) {W : World} (h : Below u.heap.size u W) : JW u v1 v2 false false false false x1 x2 y1 y2 W :=
  ⟨h, nofun, nofun, nofun, nofun, nofun, nofun⟩

def left4w (c1 c2 k1 k2 : Bool) : Nat := 2 + (!c1).toNat + (!c2).toNat + (!k1).toNat + (!k2).toNat

theorem dp2w {P : Program} {md : Region.Mode} {ops : Array Oper} {Q : Exit → Act → World → Prop} {S : World → Prop} (u : World) (v1 v2 : Value) (s1 s2 t1 t2 : Nat) (LST : Bool → Bool → Bool → Bool → Array Bool) {W : World} {n : Nat} {listed : Array Bool} {a : Act} (hn : n = 6) (hl : listed = LST false false false false) (ha : a = (((a.put (some s1) undef).put (some s2) undef).put (some t1) undef).put (some t2) undef) (hu : Below u.heap.size u W)
    (h : ∀ (n : Nat) (c1 c2 k1 k2 : Bool) (x1 x2 y1 y2 : Value) (W : World), n = left4w c1 c2 k1 k2 → JW u v1 v2 c1 c2 k1 k2 x1 x2 y1 y2 W → wpAnyH P md ops Q S n (LST c1 c2 k1 k2) ((((a.put (some s1) x1).put (some s2) x2).put (some t1) y1).put (some t2) y2) W) :
    wpAnyH P md ops Q S n listed a W := by
  subst hn hl
  rw [ha]
  exact h 6 _ _ _ _ _ _ _ _ W rfl (JW.start v1 v2 _ _ _ _ hu)

/-- Two boxes with two known numbers. -/
def TwoKnown (u : World) (b0 b1 : Bool) (v0 v1 : Value) (s t : Value) (wx : World) : Prop :=
  ∃ g h : Nat, s = .pointer (some ⟨g, 0, none⟩) ∧ t = .pointer (some ⟨h, 0, none⟩) ∧
    wx.heap[g]? = some (.cells #[.bool b0, v0] 27) ∧ wx.heap[h]? = some (.cells #[.bool b1, v1] 27) ∧ Below u.heap.size u wx

theorem known_ss {u W : World} {b0 b1 : Bool} {v0 v1 : Value} {g h : Nat} (h1 : W.heap[g]? = some (.cells #[.bool false, .slice none 0 0] 27)) (h2 : W.heap[h]? = some (.cells #[.bool false, .slice none 0 0] 27)) (l1 : u.heap.size ≤ g) (l2 : u.heap.size ≤ h) (d12 : g ≠ h) (hu : Below u.heap.size u W) :
    TwoKnown u b0 b1 v0 v1 (.pointer (some ⟨g, 0, none⟩)) (.pointer (some ⟨h, 0, none⟩)) ((((W.setCell ⟨g, 0, none⟩ (.bool b0)).setCell ⟨g, 1, none⟩ v0).setCell ⟨h, 0, none⟩ (.bool b1)).setCell ⟨h, 1, none⟩ v1) := by
  have e2 := duo_other (u0 := .bool b0) (u1 := v0) h2 (Ne.symm d12)
  exact ⟨g, h, rfl, rfl, duo_other (duo_all h1) d12, duo_all e2, below_duo (below_duo hu l1) l2⟩

end Go.Proofs.YtfgcngndiblpmaaGreatDoor
