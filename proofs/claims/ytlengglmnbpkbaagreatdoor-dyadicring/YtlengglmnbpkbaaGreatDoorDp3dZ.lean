/- Three calls and three new boxes in one statement that leaves its order open: by what has been done, not by the order in which. -/
import Derived.Test.YtlengglmnbpkbaaGreatDoorDyRgZ
import Derived.Test.YtlengglmnbpkbaaGreatDoorQH
import Derived.Test.YtlengglmnbpkbaaGreatDoorDyAllZ
namespace Go.Proofs.YtlengglmnbpkbaaGreatDoor
open Go.RowKit
open Lm

/-- What has been done so far: which calls have answered (c), which boxes have been made (k). -/
structure JD (u : World) (v1 v2 v3 : Value) (c1 c2 c3 k1 k2 k3 : Bool) (x1 x2 x3 y1 y2 y3 : Value) (W : World) : Prop where
  up : Below u.heap.size u W
  ch : (c2 = true → c1 = true) ∧ (c3 = true → c2 = true)
  q1 : c1 = true → x1 = v1
  q2 : c2 = true → x2 = v2
  q3 : c3 = true → x3 = v3
  r1 : k1 = true → ∃ g, y1 = .pointer (some ⟨g, 0, none⟩) ∧ u.heap.size ≤ g ∧ W.heap[g]? = some (.cells #[.bool false, .slice none 0 0, .int .i64 0] 29)
  r2 : k2 = true → ∃ g, y2 = .pointer (some ⟨g, 0, none⟩) ∧ u.heap.size ≤ g ∧ W.heap[g]? = some (.cells #[.bool false, .slice none 0 0, .int .i64 0] 29)
  r3 : k3 = true → ∃ g, y3 = .pointer (some ⟨g, 0, none⟩) ∧ u.heap.size ≤ g ∧ W.heap[g]? = some (.cells #[.bool false, .slice none 0 0, .int .i64 0] 29)
  d12 : k1 = true → k2 = true → y1 ≠ y2
  d13 : k1 = true → k3 = true → y1 ≠ y3
  d23 : k2 = true → k3 = true → y2 ≠ y3

theorem box_at_up8 {W W' : World} {u : Nat} {y : Value} {x : Obj} (hb : Below W.heap.size W W') (h : ∃ g, y = .pointer (some ⟨g, 0, none⟩) ∧ u ≤ g ∧ W.heap[g]? = some x) : ∃ g, y = .pointer (some ⟨g, 0, none⟩) ∧ u ≤ g ∧ W'.heap[g]? = some x := by
  obtain ⟨g, h1, h2, h3⟩ := h
  exact ⟨g, h1, h2, block_upW hb h3⟩

theorem box_old8 {W : World} {u : Nat} {y : Value} {x : Obj} (h : ∃ g, y = .pointer (some ⟨g, 0, none⟩) ∧ u ≤ g ∧ W.heap[g]? = some x) : y ≠ .pointer (some ⟨W.heap.size, 0, none⟩) := by
  obtain ⟨g, rfl, _, h3⟩ := h
  intro e
  simp only [Value.pointer.injEq, Option.some.injEq, Addr.mk.injEq, and_true] at e
  have := lt_of_block h3
  omega

theorem JD.below {u : World} {v1 v2 v3 : Value} {c1 c2 c3 k1 k2 k3 : Bool} {x1 x2 x3 y1 y2 y3 : Value} {W W' : World} (h : JD u v1 v2 v3 c1 c2 c3 k1 k2 k3 x1 x2 x3 y1 y2 y3 W) (hb : Below W.heap.size W W') : JD u v1 v2 v3 c1 c2 c3 k1 k2 k3 x1 x2 x3 y1 y2 y3 W' :=
  ⟨bl_trans8 h.up hb, h.ch, h.q1, h.q2, h.q3, fun e => box_at_up8 hb (h.r1 e), fun e => box_at_up8 hb (h.r2 e), fun e => box_at_up8 hb (h.r3 e), h.d12, h.d13, h.d23⟩

theorem JD.call1 {u : World} {v1 v2 v3 : Value} {c1 c2 c3 k1 k2 k3 : Bool} {x1 x2 x3 y1 y2 y3 : Value} {W W' : World} (h : JD u v1 v2 v3 c1 c2 c3 k1 k2 k3 x1 x2 x3 y1 y2 y3 W) (hb : Below W.heap.size W W') : JD u v1 v2 v3 true c2 c3 k1 k2 k3 v1 x2 x3 y1 y2 y3 W' :=
  have j := h.below hb
  ⟨j.up, ⟨fun _ => rfl, j.ch.2⟩, fun _ => rfl, j.q2, j.q3, j.r1, j.r2, j.r3, j.d12, j.d13, j.d23⟩

theorem JD.call2 {u : World} {v1 v2 v3 : Value} {c2 c3 k1 k2 k3 : Bool} {x1 x2 x3 y1 y2 y3 : Value} {W W' : World} (h : JD u v1 v2 v3 true c2 c3 k1 k2 k3 x1 x2 x3 y1 y2 y3 W) (hb : Below W.heap.size W W') : JD u v1 v2 v3 true true c3 k1 k2 k3 x1 v2 x3 y1 y2 y3 W' :=
  have j := h.below hb
  ⟨j.up, ⟨fun _ => rfl, fun _ => rfl⟩, j.q1, fun _ => rfl, j.q3, j.r1, j.r2, j.r3, j.d12, j.d13, j.d23⟩

theorem JD.call3 {u : World} {v1 v2 v3 : Value} {c3 k1 k2 k3 : Bool} {x1 x2 x3 y1 y2 y3 : Value} {W W' : World} (h : JD u v1 v2 v3 true true c3 k1 k2 k3 x1 x2 x3 y1 y2 y3 W) (hb : Below W.heap.size W W') : JD u v1 v2 v3 true true true k1 k2 k3 x1 x2 v3 y1 y2 y3 W' :=
  have j := h.below hb
  ⟨j.up, ⟨fun _ => rfl, fun _ => rfl⟩, j.q1, j.q2, fun _ => rfl, j.r1, j.r2, j.r3, j.d12, j.d13, j.d23⟩

theorem JD.make1 {u : World} {v1 v2 v3 : Value} {c1 c2 c3 k1 k2 k3 : Bool} {x1 x2 x3 y1 y2 y3 : Value} {W : World} (h : JD u v1 v2 v3 c1 c2 c3 k1 k2 k3 x1 x2 x3 y1 y2 y3 W) :
    JD u v1 v2 v3 c1 c2 c3 true k2 k3 x1 x2 x3 (.pointer (some ⟨W.heap.size, 0, none⟩)) y2 y3 (W.alloc (.cells #[.bool false, .slice none 0 0, .int .i64 0] 29)) :=
  have j := h.below (below_one6 W (.cells #[.bool false, .slice none 0 0, .int .i64 0] 29))
  ⟨j.up, j.ch, j.q1, j.q2, j.q3, fun _ => ⟨_, rfl, h.up.size, heap_alloc_new _ _⟩, j.r2, j.r3, fun _ e => (box_old8 (h.r2 e)).symm, fun _ e => (box_old8 (h.r3 e)).symm, j.d23⟩

theorem JD.make2 {u : World} {v1 v2 v3 : Value} {c1 c2 c3 k1 k2 k3 : Bool} {x1 x2 x3 y1 y2 y3 : Value} {W : World} (h : JD u v1 v2 v3 c1 c2 c3 k1 k2 k3 x1 x2 x3 y1 y2 y3 W) :
    JD u v1 v2 v3 c1 c2 c3 k1 true k3 x1 x2 x3 y1 (.pointer (some ⟨W.heap.size, 0, none⟩)) y3 (W.alloc (.cells #[.bool false, .slice none 0 0, .int .i64 0] 29)) :=
  have j := h.below (below_one6 W (.cells #[.bool false, .slice none 0 0, .int .i64 0] 29))
  ⟨j.up, j.ch, j.q1, j.q2, j.q3, j.r1, fun _ => ⟨_, rfl, h.up.size, heap_alloc_new _ _⟩, j.r3, fun e _ => box_old8 (h.r1 e), j.d13, fun _ e => (box_old8 (h.r3 e)).symm⟩

theorem JD.make3 {u : World} {v1 v2 v3 : Value} {c1 c2 c3 k1 k2 k3 : Bool} {x1 x2 x3 y1 y2 y3 : Value} {W : World} (h : JD u v1 v2 v3 c1 c2 c3 k1 k2 k3 x1 x2 x3 y1 y2 y3 W) :
    JD u v1 v2 v3 c1 c2 c3 k1 k2 true x1 x2 x3 y1 y2 (.pointer (some ⟨W.heap.size, 0, none⟩)) (W.alloc (.cells #[.bool false, .slice none 0 0, .int .i64 0] 29)) :=
  have j := h.below (below_one6 W (.cells #[.bool false, .slice none 0 0, .int .i64 0] 29))
  ⟨j.up, j.ch, j.q1, j.q2, j.q3, j.r1, j.r2, fun _ => ⟨_, rfl, h.up.size, heap_alloc_new _ _⟩, j.d12, fun e _ => box_old8 (h.r1 e), fun e _ => box_old8 (h.r2 e)⟩

theorem JD.start {u : World} (v1 v2 v3 x1 x2 x3 y1 y2 y3 : Value) {W : World} (h : Below u.heap.size u W) : JD u v1 v2 v3 false false false false false false x1 x2 x3 y1 y2 y3 W :=
  ⟨h, ⟨nofun, nofun⟩, nofun, nofun, nofun, nofun, nofun, nofun, nofun, nofun, nofun⟩

/-- How many operations are to come, the three stores with them. -/
def left6d (c1 c2 c3 k1 k2 k3 : Bool) : Nat := 3 + (!c1).toNat + (!c2).toNat + (!c3).toNat + (!k1).toNat + (!k2).toNat + (!k3).toNat

theorem dp3d {P : Program} {md : Region.Mode} {ops : Array Oper} {Q : Exit → Act → World → Prop} {S : World → Prop} (u : World) (v1 v2 v3 : Value) (ACT : Value → Value → Value → Value → Value → Value → Act) (LST : Bool → Bool → Bool → Bool → Bool → Bool → Array Bool) {W : World} {n : Nat} {listed : Array Bool} {a : Act} (hn : n = 9) (hl : listed = LST false false false false false false) (ha : a = ACT undef undef undef undef undef undef) (hu : Below u.heap.size u W)
    (h : ∀ (n : Nat) (c1 c2 c3 k1 k2 k3 : Bool) (x1 x2 x3 y1 y2 y3 : Value) (W : World), n = left6d c1 c2 c3 k1 k2 k3 → JD u v1 v2 v3 c1 c2 c3 k1 k2 k3 x1 x2 x3 y1 y2 y3 W → wpAnyH P md ops Q S n (LST c1 c2 c3 k1 k2 k3) (ACT x1 x2 x3 y1 y2 y3) W) :
    wpAnyH P md ops Q S n listed a W := by
  subst hn hl ha
  exact h 9 _ _ _ _ _ _ _ _ _ _ _ _ W rfl (JD.start v1 v2 v3 _ _ _ _ _ _ hu)

theorem tri8_other {w : World} {g h : Nat} {u0 u1 u2 : Value} {x : Obj} (e : w.heap[h]? = some x) (hne : h ≠ g) : (((w.setCell ⟨g, 0, none⟩ u0).setCell ⟨g, 1, none⟩ u1).setCell ⟨g, 2, none⟩ u2).heap[h]? = some x := by
  rw [Below.heap_setCell _ _ _ _ hne, Below.heap_setCell _ _ _ _ hne, Below.heap_setCell _ _ _ _ hne]; exact e

/-- Three boxes with three known dyadics. -/
def ThreeD (u : World) (b0 b1 b2 : Bool) (v0 v1 v2 : Value) (e0 e1 e2 : Int) (s t r : Value) (wx : World) : Prop :=
  ∃ g h k : Nat, s = .pointer (some ⟨g, 0, none⟩) ∧ t = .pointer (some ⟨h, 0, none⟩) ∧ r = .pointer (some ⟨k, 0, none⟩) ∧
    wx.heap[g]? = some (.cells #[.bool b0, v0, .int .i64 e0] 29) ∧ wx.heap[h]? = some (.cells #[.bool b1, v1, .int .i64 e1] 29) ∧ wx.heap[k]? = some (.cells #[.bool b2, v2, .int .i64 e2] 29) ∧ Below u.heap.size u wx

theorem three_d {u W : World} {b0 b1 b2 : Bool} {v0 v1 v2 : Value} {x0 x1 x2 : Int} {g h k : Nat} (h1 : W.heap[g]? = some (.cells #[.bool false, .slice none 0 0, .int .i64 0] 29)) (h2 : W.heap[h]? = some (.cells #[.bool false, .slice none 0 0, .int .i64 0] 29)) (h3 : W.heap[k]? = some (.cells #[.bool false, .slice none 0 0, .int .i64 0] 29)) (l1 : u.heap.size ≤ g) (l2 : u.heap.size ≤ h) (l3 : u.heap.size ≤ k) (d12 : g ≠ h) (d13 : g ≠ k) (d23 : h ≠ k) (hu : Below u.heap.size u W) :
    ThreeD u b0 b1 b2 v0 v1 v2 x0 x1 x2 (.pointer (some ⟨g, 0, none⟩)) (.pointer (some ⟨h, 0, none⟩)) (.pointer (some ⟨k, 0, none⟩)) (((((((((W.setCell ⟨g, 0, none⟩ (.bool b0)).setCell ⟨g, 1, none⟩ v0).setCell ⟨g, 2, none⟩ (.int .i64 x0)).setCell ⟨h, 0, none⟩ (.bool b1)).setCell ⟨h, 1, none⟩ v1).setCell ⟨h, 2, none⟩ (.int .i64 x1)).setCell ⟨k, 0, none⟩ (.bool b2)).setCell ⟨k, 1, none⟩ v2).setCell ⟨k, 2, none⟩ (.int .i64 x2)) := by
  have e2 := tri8_other (u0 := .bool b0) (u1 := v0) (u2 := .int .i64 x0) h2 (Ne.symm d12)
  have e3 := tri8_other (u0 := .bool b1) (u1 := v1) (u2 := .int .i64 x1) (tri8_other (u0 := .bool b0) (u1 := v0) (u2 := .int .i64 x0) h3 (Ne.symm d13)) (Ne.symm d23)
  exact ⟨g, h, k, rfl, rfl, rfl, tri8_other (tri8_other (tri8_all h1 _ _ _) d12) d13, tri8_other (tri8_all e2 _ _ _) d23, tri8_all e3 _ _ _, below_tri8 (below_tri8 (below_tri8 hu l1 _ _ _) l2 _ _ _) l3 _ _ _⟩

end Go.Proofs.YtlengglmnbpkbaaGreatDoor
