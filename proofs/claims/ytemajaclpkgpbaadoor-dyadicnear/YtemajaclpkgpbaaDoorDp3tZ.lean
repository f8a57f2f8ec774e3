/- Three calls and three new boxes in one statement that leaves its order open: by what has been done, not by the order in which. -/
import Derived.Test.YtemajaclpkgpbaaDoorDySsZ
import Derived.Test.YtemajaclpkgpbaaDoorQH
import Derived.Test.YtemajaclpkgpbaaDoorDyAllZ
namespace Go.Proofs.YtemajaclpkgpbaaDoor
open Go.RowKit
open Lm

/-- What has been done so far: which calls have answered (c), which boxes have been made (k). -/
structure JQ (u : World) (Q1 Q2 Q3 : Value → World → Prop) (c1 c2 c3 k1 k2 k3 : Bool) (x1 x2 x3 y1 y2 y3 : Value) (W : World) : Prop where
  up : Below u.heap.size u W
  ch : (c2 = true → c1 = true) ∧ (c3 = true → c2 = true)
  m1 : ∀ x W W', Below W.heap.size W W' → Q1 x W → Q1 x W'
  m2 : ∀ x W W', Below W.heap.size W W' → Q2 x W → Q2 x W'
  m3 : ∀ x W W', Below W.heap.size W W' → Q3 x W → Q3 x W'
  q1 : c1 = true → Q1 x1 W
  q2 : c2 = true → Q2 x2 W
  q3 : c3 = true → Q3 x3 W
  r1 : k1 = true → ∃ g, y1 = .pointer (some ⟨g, 0, none⟩) ∧ u.heap.size ≤ g ∧ W.heap[g]? = some (.cells #[.bool false, .slice none 0 0, .int .i64 0] 36)
  r2 : k2 = true → ∃ g, y2 = .pointer (some ⟨g, 0, none⟩) ∧ u.heap.size ≤ g ∧ W.heap[g]? = some (.cells #[.bool false, .slice none 0 0, .int .i64 0] 36)
  r3 : k3 = true → ∃ g, y3 = .pointer (some ⟨g, 0, none⟩) ∧ u.heap.size ≤ g ∧ W.heap[g]? = some (.cells #[.bool false, .slice none 0 0, .int .i64 0] 36)
  d12 : k1 = true → k2 = true → y1 ≠ y2
  d13 : k1 = true → k3 = true → y1 ≠ y3
  d23 : k2 = true → k3 = true → y2 ≠ y3

theorem box_at_up9 {W W' : World} {u : Nat} {y : Value} {x : Obj} (hb : Below W.heap.size W W') (h : ∃ g, y = .pointer (some ⟨g, 0, none⟩) ∧ u ≤ g ∧ W.heap[g]? = some x) : ∃ g, y = .pointer (some ⟨g, 0, none⟩) ∧ u ≤ g ∧ W'.heap[g]? = some x := by
  obtain ⟨g, h1, h2, h3⟩ := h
  exact ⟨g, h1, h2, block_upW hb h3⟩

theorem box_old9 {W : World} {u : Nat} {y : Value} {x : Obj} (h : ∃ g, y = .pointer (some ⟨g, 0, none⟩) ∧ u ≤ g ∧ W.heap[g]? = some x) : y ≠ .pointer (some ⟨W.heap.size, 0, none⟩) := by
  obtain ⟨g, rfl, _, h3⟩ := h
  intro e
  simp only [Value.pointer.injEq, Option.some.injEq, Addr.mk.injEq, and_true] at e
  have := lt_of_block h3
  omega

theorem JQ.below {u : World} {Q1 Q2 Q3 : Value → World → Prop} {c1 c2 c3 k1 k2 k3 : Bool} {x1 x2 x3 y1 y2 y3 : Value} {W W' : World} (h : JQ u Q1 Q2 Q3 c1 c2 c3 k1 k2 k3 x1 x2 x3 y1 y2 y3 W) (hb : Below W.heap.size W W') : JQ u Q1 Q2 Q3 c1 c2 c3 k1 k2 k3 x1 x2 x3 y1 y2 y3 W' :=
  ⟨bl_trans8 h.up hb, h.ch, h.m1, h.m2, h.m3, fun e => h.m1 _ _ _ hb (h.q1 e), fun e => h.m2 _ _ _ hb (h.q2 e), fun e => h.m3 _ _ _ hb (h.q3 e), fun e => box_at_up9 hb (h.r1 e), fun e => box_at_up9 hb (h.r2 e), fun e => box_at_up9 hb (h.r3 e), h.d12, h.d13, h.d23⟩

theorem JQ.call1 {u : World} {Q1 Q2 Q3 : Value → World → Prop} {c1 c2 c3 k1 k2 k3 : Bool} {x1 x2 x3 y1 y2 y3 : Value} {W W' : World} (h : JQ u Q1 Q2 Q3 c1 c2 c3 k1 k2 k3 x1 x2 x3 y1 y2 y3 W) {x9 : Value} (hb : Below W.heap.size W W') (hq : Q1 x9 W') : JQ u Q1 Q2 Q3 true c2 c3 k1 k2 k3 x9 x2 x3 y1 y2 y3 W' :=
  have j := h.below hb
  ⟨j.up, ⟨fun _ => rfl, j.ch.2⟩, j.m1, j.m2, j.m3, fun _ => hq, j.q2, j.q3, j.r1, j.r2, j.r3, j.d12, j.d13, j.d23⟩

theorem JQ.call2 {u : World} {Q1 Q2 Q3 : Value → World → Prop} {c2 c3 k1 k2 k3 : Bool} {x1 x2 x3 y1 y2 y3 : Value} {W W' : World} (h : JQ u Q1 Q2 Q3 true c2 c3 k1 k2 k3 x1 x2 x3 y1 y2 y3 W) {x9 : Value} (hb : Below W.heap.size W W') (hq : Q2 x9 W') : JQ u Q1 Q2 Q3 true true c3 k1 k2 k3 x1 x9 x3 y1 y2 y3 W' :=
  have j := h.below hb
  ⟨j.up, ⟨fun _ => rfl, fun _ => rfl⟩, j.m1, j.m2, j.m3, j.q1, fun _ => hq, j.q3, j.r1, j.r2, j.r3, j.d12, j.d13, j.d23⟩

theorem JQ.call3 {u : World} {Q1 Q2 Q3 : Value → World → Prop} {c3 k1 k2 k3 : Bool} {x1 x2 x3 y1 y2 y3 : Value} {W W' : World} (h : JQ u Q1 Q2 Q3 true true c3 k1 k2 k3 x1 x2 x3 y1 y2 y3 W) {x9 : Value} (hb : Below W.heap.size W W') (hq : Q3 x9 W') : JQ u Q1 Q2 Q3 true true true k1 k2 k3 x1 x2 x9 y1 y2 y3 W' :=
  have j := h.below hb
  ⟨j.up, ⟨fun _ => rfl, fun _ => rfl⟩, j.m1, j.m2, j.m3, j.q1, j.q2, fun _ => hq, j.r1, j.r2, j.r3, j.d12, j.d13, j.d23⟩

theorem JQ.make1 {u : World} {Q1 Q2 Q3 : Value → World → Prop} {c1 c2 c3 k1 k2 k3 : Bool} {x1 x2 x3 y1 y2 y3 : Value} {W : World} (h : JQ u Q1 Q2 Q3 c1 c2 c3 k1 k2 k3 x1 x2 x3 y1 y2 y3 W) :
    JQ u Q1 Q2 Q3 c1 c2 c3 true k2 k3 x1 x2 x3 (.pointer (some ⟨W.heap.size, 0, none⟩)) y2 y3 (W.alloc (.cells #[.bool false, .slice none 0 0, .int .i64 0] 36)) :=
  have j := h.below (below_one6 W (.cells #[.bool false, .slice none 0 0, .int .i64 0] 36))
  ⟨j.up, j.ch, j.m1, j.m2, j.m3, j.q1, j.q2, j.q3, fun _ => ⟨_, rfl, h.up.size, heap_alloc_new _ _⟩, j.r2, j.r3, fun _ e => (box_old9 (h.r2 e)).symm, fun _ e => (box_old9 (h.r3 e)).symm, j.d23⟩

theorem JQ.make2 {u : World} {Q1 Q2 Q3 : Value → World → Prop} {c1 c2 c3 k1 k2 k3 : Bool} {x1 x2 x3 y1 y2 y3 : Value} {W : World} (h : JQ u Q1 Q2 Q3 c1 c2 c3 k1 k2 k3 x1 x2 x3 y1 y2 y3 W) :
    JQ u Q1 Q2 Q3 c1 c2 c3 k1 true k3 x1 x2 x3 y1 (.pointer (some ⟨W.heap.size, 0, none⟩)) y3 (W.alloc (.cells #[.bool false, .slice none 0 0, .int .i64 0] 36)) :=
  have j := h.below (below_one6 W (.cells #[.bool false, .slice none 0 0, .int .i64 0] 36))
  ⟨j.up, j.ch, j.m1, j.m2, j.m3, j.q1, j.q2, j.q3, j.r1, fun _ => ⟨_, rfl, h.up.size, heap_alloc_new _ _⟩, j.r3, fun e _ => box_old9 (h.r1 e), j.d13, fun _ e => (box_old9 (h.r3 e)).symm⟩

theorem JQ.make3 {u : World} {Q1 Q2 Q3 : Value → World → Prop} {c1 c2 c3 k1 k2 k3 : Bool} {x1 x2 x3 y1 y2 y3 : Value} {W : World} (h : JQ u Q1 Q2 Q3 c1 c2 c3 k1 k2 k3 x1 x2 x3 y1 y2 y3 W) :
    JQ u Q1 Q2 Q3 c1 c2 c3 k1 k2 true x1 x2 x3 y1 y2 (.pointer (some ⟨W.heap.size, 0, none⟩)) (W.alloc (.cells #[.bool false, .slice none 0 0, .int .i64 0] 36)) :=
  have j := h.below (below_one6 W (.cells #[.bool false, .slice none 0 0, .int .i64 0] 36))
  ⟨j.up, j.ch, j.m1, j.m2, j.m3, j.q1, j.q2, j.q3, j.r1, j.r2, fun _ => ⟨_, rfl, h.up.size, heap_alloc_new _ _⟩, j.d12, fun e _ => box_old9 (h.r1 e), fun e _ => box_old9 (h.r2 e)⟩

theorem JQ.start {u : World} {Q1 Q2 Q3 : Value → World → Prop} (m1 : ∀ x W W', Below W.heap.size W W' → Q1 x W → Q1 x W') (m2 : ∀ x W W', Below W.heap.size W W' → Q2 x W → Q2 x W') (m3 : ∀ x W W', Below W.heap.size W W' → Q3 x W → Q3 x W') (x1 x2 x3 y1 y2 y3 : Value) {W : World} (h : Below u.heap.size u W) : JQ u Q1 Q2 Q3 false false false false false false x1 x2 x3 y1 y2 y3 W :=
  ⟨h, ⟨nofun, nofun⟩, m1, m2, m3, nofun, nofun, nofun, nofun, nofun, nofun, nofun, nofun, nofun⟩

/-- How many operations are to come, the three stores with them. -/
def left6t (c1 c2 c3 k1 k2 k3 : Bool) : Nat := 3 + (!c1).toNat + (!c2).toNat + (!c3).toNat + (!k1).toNat + (!k2).toNat + (!k3).toNat

theorem dp3t {P : Program} {md : Region.Mode} {ops : Array Oper} {Q : Exit → Act → World → Prop} {S : World → Prop} (u : World) (Q1 Q2 Q3 : Value → World → Prop) (m1 : ∀ x W W', Below W.heap.size W W' → Q1 x W → Q1 x W') (m2 : ∀ x W W', Below W.heap.size W W' → Q2 x W → Q2 x W') (m3 : ∀ x W W', Below W.heap.size W W' → Q3 x W → Q3 x W') (ACT : Value → Value → Value → Value → Value → Value → Act) (LST : Bool → Bool → Bool → Bool → Bool → Bool → Array Bool) {W : World} {n : Nat} {listed : Array Bool} {a : Act} (hn : n = 9) (hl : listed = LST false false false false false false) (ha : a = ACT undef undef undef undef undef undef) (hu : Below u.heap.size u W)
    (h : ∀ (n : Nat) (c1 c2 c3 k1 k2 k3 : Bool) (x1 x2 x3 y1 y2 y3 : Value) (W : World), n = left6t c1 c2 c3 k1 k2 k3 → JQ u Q1 Q2 Q3 c1 c2 c3 k1 k2 k3 x1 x2 x3 y1 y2 y3 W → wpAnyH P md ops Q S n (LST c1 c2 c3 k1 k2 k3) (ACT x1 x2 x3 y1 y2 y3) W) :
    wpAnyH P md ops Q S n listed a W := by
  subst hn hl ha
  exact h 9 _ _ _ _ _ _ _ _ _ _ _ _ W rfl (JQ.start m1 m2 m3 _ _ _ _ _ _ hu)

theorem tri9_other {w : World} {g h : Nat} {u0 u1 u2 : Value} {x : Obj} (e : w.heap[h]? = some x) (hne : h ≠ g) : (((w.setCell ⟨g, 0, none⟩ u0).setCell ⟨g, 1, none⟩ u1).setCell ⟨g, 2, none⟩ u2).heap[h]? = some x := by
  rw [Below.heap_setCell _ _ _ _ hne, Below.heap_setCell _ _ _ _ hne, Below.heap_setCell _ _ _ _ hne]; exact e

/-- A number of the document's as a value. -/
def IsT (E : Int) (L : Nat) (V : Int) (x : Value) (W : World) : Prop := ∃ b a n c, x = .agg #[.bool b, .slice a n c, .int .i64 E] ∧ T8 W b a n c E L V

theorem IsT.up (E : Int) (L : Nat) (V : Int) : ∀ x W W', Below W.heap.size W W' → IsT E L V x W → IsT E L V x W' := by
  rintro x W W' hb ⟨b, a, n, c, h1, h2⟩
  exact ⟨b, a, n, c, h1, h2.below hb⟩

/-- Three boxes with three of the document's numbers. -/
def ThreeT (u : World) (E1 E2 E3 : Int) (L : Nat) (V1 V2 V3 : Int) (s t r : Value) (wx : World) : Prop :=
  ∃ (g h k : Nat) (b1 : Bool) (a1 : Option Addr) (n1 c1 : Nat) (b2 : Bool) (a2 : Option Addr) (n2 c2 : Nat) (b3 : Bool) (a3 : Option Addr) (n3 c3 : Nat), s = .pointer (some ⟨g, 0, none⟩) ∧ t = .pointer (some ⟨h, 0, none⟩) ∧ r = .pointer (some ⟨k, 0, none⟩) ∧
    wx.heap[g]? = some (.cells #[.bool b1, .slice a1 n1 c1, .int .i64 E1] 36) ∧ wx.heap[h]? = some (.cells #[.bool b2, .slice a2 n2 c2, .int .i64 E2] 36) ∧ wx.heap[k]? = some (.cells #[.bool b3, .slice a3 n3 c3, .int .i64 E3] 36) ∧ T8 wx b1 a1 n1 c1 E1 L V1 ∧ T8 wx b2 a2 n2 c2 E2 L V2 ∧ T8 wx b3 a3 n3 c3 E3 L V3 ∧ Below u.heap.size u wx

theorem three_t {u W : World} {E1 E2 E3 : Int} {L : Nat} {V1 V2 V3 : Int} {b1 : Bool} {a1 : Option Addr} {n1 c1 : Nat} {b2 : Bool} {a2 : Option Addr} {n2 c2 : Nat} {b3 : Bool} {a3 : Option Addr} {n3 c3 : Nat} {g h k : Nat} (h1 : W.heap[g]? = some (.cells #[.bool false, .slice none 0 0, .int .i64 0] 36)) (h2 : W.heap[h]? = some (.cells #[.bool false, .slice none 0 0, .int .i64 0] 36)) (h3 : W.heap[k]? = some (.cells #[.bool false, .slice none 0 0, .int .i64 0] 36)) (l1 : u.heap.size ≤ g) (l2 : u.heap.size ≤ h) (l3 : u.heap.size ≤ k) (d12 : g ≠ h) (d13 : g ≠ k) (d23 : h ≠ k) (hu : Below u.heap.size u W) (t1 : T8 W b1 a1 n1 c1 E1 L V1) (t2 : T8 W b2 a2 n2 c2 E2 L V2) (t3 : T8 W b3 a3 n3 c3 E3 L V3) :
    ThreeT u E1 E2 E3 L V1 V2 V3 (.pointer (some ⟨g, 0, none⟩)) (.pointer (some ⟨h, 0, none⟩)) (.pointer (some ⟨k, 0, none⟩)) (((((((((W.setCell ⟨g, 0, none⟩ (.bool b1)).setCell ⟨g, 1, none⟩ (.slice a1 n1 c1)).setCell ⟨g, 2, none⟩ (.int .i64 E1)).setCell ⟨h, 0, none⟩ (.bool b2)).setCell ⟨h, 1, none⟩ (.slice a2 n2 c2)).setCell ⟨h, 2, none⟩ (.int .i64 E2)).setCell ⟨k, 0, none⟩ (.bool b3)).setCell ⟨k, 1, none⟩ (.slice a3 n3 c3)).setCell ⟨k, 2, none⟩ (.int .i64 E3)) := by
  have e2 := tri9_other (u0 := .bool b1) (u1 := .slice a1 n1 c1) (u2 := .int .i64 E1) h2 (Ne.symm d12)
  have e3 := tri9_other (u0 := .bool b2) (u1 := .slice a2 n2 c2) (u2 := .int .i64 E2) (tri9_other (u0 := .bool b1) (u1 := .slice a1 n1 c1) (u2 := .int .i64 E1) h3 (Ne.symm d13)) (Ne.symm d23)
  have up : ∀ {b : Bool} {a : Option Addr} {n c : Nat} {E : Int} {V : Int}, T8 W b a n c E L V → T8 (((((((((W.setCell ⟨g, 0, none⟩ (.bool b1)).setCell ⟨g, 1, none⟩ (.slice a1 n1 c1)).setCell ⟨g, 2, none⟩ (.int .i64 E1)).setCell ⟨h, 0, none⟩ (.bool b2)).setCell ⟨h, 1, none⟩ (.slice a2 n2 c2)).setCell ⟨h, 2, none⟩ (.int .i64 E2)).setCell ⟨k, 0, none⟩ (.bool b3)).setCell ⟨k, 1, none⟩ (.slice a3 n3 c3)).setCell ⟨k, 2, none⟩ (.int .i64 E3)) b a n c E L V := fun t => ((t.tri8 h1 b1 a1 n1 c1 _).tri8 e2 b2 a2 n2 c2 _).tri8 e3 b3 a3 n3 c3 _
  exact ⟨g, h, k, b1, a1, n1, c1, b2, a2, n2, c2, b3, a3, n3, c3, rfl, rfl, rfl, tri9_other (tri9_other (tri8_all h1 _ _ _) d12) d13, tri9_other (tri8_all e2 _ _ _) d23, tri8_all e3 _ _ _, up t1, up t2, up t3, below_tri8 (below_tri8 (below_tri8 hu l1 _ _ _) l2 _ _ _) l3 _ _ _⟩

end Go.Proofs.YtemajaclpkgpbaaDoor
