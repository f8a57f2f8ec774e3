/- Two calls and two new boxes in one statement that leaves its order open: by what has been done, not by the order in which. -/
import Derived.Test.YtfgcngndiblpmaaGreatDoorLWholeSumsZ
namespace Go.Proofs.YtfgcngndiblpmaaGreatDoor
open Go.RowKit
open Lm

theorem box_at_up2 {W W' : World} {u : Nat} {y : Value} {x : Obj} (hb : Below W.heap.size W W') (h : ∃ g, y = .pointer (some ⟨g, 0, none⟩) ∧ u ≤ g ∧ W.heap[g]? = some x) : ∃ g, y = .pointer (some ⟨g, 0, none⟩) ∧ u ≤ g ∧ W'.heap[g]? = some x := by
  obtain ⟨g, h1, h2, h3⟩ := h
  exact ⟨g, h1, h2, block_upW hb h3⟩

theorem box_old2 {W : World} {u : Nat} {y : Value} {x : Obj} (h : ∃ g, y = .pointer (some ⟨g, 0, none⟩) ∧ u ≤ g ∧ W.heap[g]? = some x) : y ≠ .pointer (some ⟨W.heap.size, 0, none⟩) := by
  obtain ⟨g, rfl, _, h3⟩ := h
  intro e
  simp only [Value.pointer.injEq, Option.some.injEq, Addr.mk.injEq, and_true] at e
  have := lt_of_block h3
  omega

/-- An answer that is the document's number z. -/
def IsZ (z : Int) (W : World) (x : Value) : Prop := ∃ (b : Bool) (a : Option Addr) (n k : Nat), x = .agg #[.bool b, .slice a n k] ∧ Zn W (.agg #[.bool b, .slice a n k]) z

theorem IsZ.below {z : Int} {W W' : World} {x : Value} (h : IsZ z W x) (hb : Below W.heap.size W W') : IsZ z W' x := by
  obtain ⟨b, a, n, k, h1, h2⟩ := h
  exact ⟨b, a, n, k, h1, h2.below hb⟩

/-- What has been done so far: which calls have answered (c), which boxes have been made (k). -/
structure JT (u : World) (z1 z2 : Int) (c1 c2 k1 k2 : Bool) (x1 x2 y1 y2 : Value) (W : World) : Prop where
  up : Below u.heap.size u W
  ch : c2 = true → c1 = true
  q1 : c1 = true → IsZ z1 W x1
  q2 : c2 = true → IsZ z2 W x2
  r1 : k1 = true → ∃ g, y1 = .pointer (some ⟨g, 0, none⟩) ∧ u.heap.size ≤ g ∧ W.heap[g]? = some (.cells #[.bool false, .slice none 0 0] 32)
  r2 : k2 = true → ∃ g, y2 = .pointer (some ⟨g, 0, none⟩) ∧ u.heap.size ≤ g ∧ W.heap[g]? = some (.cells #[.bool false, .slice none 0 0] 32)
  d12 : k1 = true → k2 = true → y1 ≠ y2

theorem JT.below {u : World} {z1 z2 : Int} {c1 c2 k1 k2 : Bool} {x1 x2 y1 y2 : Value} {W W' : World} (h : JT u z1 z2 c1 c2 k1 k2 x1 x2 y1 y2 W) (hb : Below W.heap.size W W') : JT u z1 z2 c1 c2 k1 k2 x1 x2 y1 y2 W' :=
  ⟨bl_trans h.up hb, h.ch, fun e => (h.q1 e).below hb, fun e => (h.q2 e).below hb, fun e => box_at_up2 hb (h.r1 e), fun e => box_at_up2 hb (h.r2 e), h.d12⟩

theorem JT.call1 {u : World} {z1 z2 : Int} {c1 c2 k1 k2 : Bool} {x1 x2 y1 y2 v : Value} {W W' : World} (h : JT u z1 z2 c1 c2 k1 k2 x1 x2 y1 y2 W) (hb : Below W.heap.size W W') (hv : IsZ z1 W' v) : JT u z1 z2 true c2 k1 k2 v x2 y1 y2 W' :=
  have j := h.below hb
  ⟨j.up, fun _ => rfl, fun _ => hv, j.q2, j.r1, j.r2, j.d12⟩

theorem JT.call2 {u : World} {z1 z2 : Int} {c2 k1 k2 : Bool} {x1 x2 y1 y2 v : Value} {W W' : World} (h : JT u z1 z2 true c2 k1 k2 x1 x2 y1 y2 W) (hb : Below W.heap.size W W') (hv : IsZ z2 W' v) : JT u z1 z2 true true k1 k2 x1 v y1 y2 W' :=
  have j := h.below hb
  ⟨j.up, fun _ => rfl, j.q1, fun _ => hv, j.r1, j.r2, j.d12⟩

theorem JT.make1 {u : World} {z1 z2 : Int} {c1 c2 k1 k2 : Bool} {x1 x2 y1 y2 : Value} {W : World} (h : JT u z1 z2 c1 c2 k1 k2 x1 x2 y1 y2 W) :
    JT u z1 z2 c1 c2 true k2 x1 x2 (.pointer (some ⟨W.heap.size, 0, none⟩)) y2 (W.alloc (.cells #[.bool false, .slice none 0 0] 32)) :=
  have j := h.below (below_one6 W (.cells #[.bool false, .slice none 0 0] 32))
  ⟨j.up, j.ch, j.q1, j.q2, fun _ => ⟨_, rfl, h.up.size, heap_alloc_new _ _⟩, j.r2, fun _ e => (box_old2 (h.r2 e)).symm⟩

theorem JT.make2 {u : World} {z1 z2 : Int} {c1 c2 k1 k2 : Bool} {x1 x2 y1 y2 : Value} {W : World} (h : JT u z1 z2 c1 c2 k1 k2 x1 x2 y1 y2 W) :
    JT u z1 z2 c1 c2 k1 true x1 x2 y1 (.pointer (some ⟨W.heap.size, 0, none⟩)) (W.alloc (.cells #[.bool false, .slice none 0 0] 32)) :=
  have j := h.below (below_one6 W (.cells #[.bool false, .slice none 0 0] 32))
  ⟨j.up, j.ch, j.q1, j.q2, j.r1, fun _ => ⟨_, rfl, h.up.size, heap_alloc_new _ _⟩, fun e _ => box_old2 (h.r1 e)⟩

theorem JT.start {u : World} (z1 z2 : Int) (x1 x2 y1 y2 : Value) {W : World} (h : Below u.heap.size u W) : JT u z1 z2 false false false false x1 x2 y1 y2 W :=
  ⟨h, nofun, nofun, nofun, nofun, nofun, nofun⟩

/-- How many operations are to come, the two stores with them. -/
def left4 (c1 c2 k1 k2 : Bool) : Nat := 2 + (!c1).toNat + (!c2).toNat + (!k1).toNat + (!k2).toNat

theorem dp2 {P : Program} {md : Region.Mode} {ops : Array Oper} {Q : Exit → Act → World → Prop} {S : World → Prop} (u : World) (z1 z2 : Int) (s1 s2 t1 t2 : Nat) (LST : Bool → Bool → Bool → Bool → Array Bool) {W : World} {n : Nat} {listed : Array Bool} {a : Act} (hn : n = 6) (hl : listed = LST false false false false) (ha : a = (((a.put (some s1) undef).put (some s2) undef).put (some t1) undef).put (some t2) undef) (hu : Below u.heap.size u W)
    (h : ∀ (n : Nat) (c1 c2 k1 k2 : Bool) (x1 x2 y1 y2 : Value) (W : World), n = left4 c1 c2 k1 k2 → JT u z1 z2 c1 c2 k1 k2 x1 x2 y1 y2 W → wpAnyH P md ops Q S n (LST c1 c2 k1 k2) ((((a.put (some s1) x1).put (some s2) x2).put (some t1) y1).put (some t2) y2) W) :
    wpAnyH P md ops Q S n listed a W := by
  subst hn hl
  rw [ha]
  exact h 6 _ _ _ _ _ _ _ _ W rfl (JT.start z1 z2 _ _ _ _ hu)

end Go.Proofs.YtfgcngndiblpmaaGreatDoor
