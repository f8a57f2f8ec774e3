/- Two spans lent in one statement that leaves its order open. -/
import Derived.Test.YtppkhhbhnhijpaaGreatDoorQZ
namespace Go.Proofs.YtppkhhbhnhijpaaGreatDoor
open Go.RowKit
open Lm

theorem box_at10 {W W' : World} {u : Nat} {y : Value} {x : Obj} (hb : Below W.heap.size W W') (h : ∃ g, y = .pointer (some ⟨g, 0, none⟩) ∧ u ≤ g ∧ W.heap[g]? = some x) : ∃ g, y = .pointer (some ⟨g, 0, none⟩) ∧ u ≤ g ∧ W'.heap[g]? = some x := by
  obtain ⟨g, h1, h2, h3⟩ := h
  exact ⟨g, h1, h2, block_upW hb h3⟩

theorem box_old10 {W : World} {u : Nat} {y : Value} {x : Obj} (h : ∃ g, y = .pointer (some ⟨g, 0, none⟩) ∧ u ≤ g ∧ W.heap[g]? = some x) : y ≠ .pointer (some ⟨W.heap.size, 0, none⟩) := by
  obtain ⟨g, rfl, _, h3⟩ := h
  intro e
  simp only [Value.pointer.injEq, Option.some.injEq, Addr.mk.injEq, and_true] at e
  have := lt_of_block h3
  omega

/-- A span that was lent. -/
def LA (b0 : Bool) (z0 : List Nat) (e0 : Int) (b1 : Bool) (z1 : List Nat) (e1 : Int) (W : World) (x : Value) : Prop :=
  ∃ (pu : Option Addr) (pmu pnu : Nat) (pv : Option Addr) (pmv pnv : Nat) (px : Option Addr) (pcx : Nat) (py : Option Addr) (pcy : Nat), x = .agg #[.slice pu pmu pnu, .slice pv pmv pnv, .bool b0, .slice px z0.length pcx, .int .i64 e0, .bool b1, .slice py z1.length pcy, .int .i64 e1] ∧ Lent W (.slice pu pmu pnu) z0 ∧ Lent W (.slice pv pmv pnv) z1 ∧ Arg W (.slice px z0.length pcx) z0 ∧ Arg W (.slice py z1.length pcy) z1

theorem LA.keep (b0 : Bool) (z0 : List Nat) (e0 : Int) (b1 : Bool) (z1 : List Nat) (e1 : Int) (W W' : World) (x : Value) (hb : Below W.heap.size W W') (h : LA b0 z0 e0 b1 z1 e1 W x) : LA b0 z0 e0 b1 z1 e1 W' x := by
  obtain ⟨pu, pmu, pnu, pv, pmv, pnv, px, pcx, py, pcy, h0, h1, h2, h3, h4⟩ := h
  exact ⟨pu, pmu, pnu, pv, pmv, pnv, px, pcx, py, pcy, h0, h1.below hb, h2.below hb, h3.below hb, h4.below hb⟩

/-- What has been done so far: which calls have answered (c), which boxes have been made (k). -/
structure JL (u : World) (P1 P2 : World → Value → Prop) (c1 c2 k1 k2 : Bool) (x1 x2 y1 y2 : Value) (W : World) : Prop where
  up : Below u.heap.size u W
  ch : c2 = true → c1 = true
  q1 : c1 = true → P1 W x1
  q2 : c2 = true → P2 W x2
  r1 : k1 = true → ∃ g, y1 = .pointer (some ⟨g, 0, none⟩) ∧ u.heap.size ≤ g ∧ W.heap[g]? = some (.cells #[.slice none 0 0, .slice none 0 0, .bool false, .slice none 0 0, .int .i64 0, .bool false, .slice none 0 0, .int .i64 0] 35)
  r2 : k2 = true → ∃ g, y2 = .pointer (some ⟨g, 0, none⟩) ∧ u.heap.size ≤ g ∧ W.heap[g]? = some (.cells #[.slice none 0 0, .slice none 0 0, .bool false, .slice none 0 0, .int .i64 0, .bool false, .slice none 0 0, .int .i64 0] 35)
  d12 : k1 = true → k2 = true → y1 ≠ y2
  p1 : ∀ W W' x, Below W.heap.size W W' → P1 W x → P1 W' x
  p2 : ∀ W W' x, Below W.heap.size W W' → P2 W x → P2 W' x

theorem JL.below {u : World} {P1 P2 : World → Value → Prop} {c1 c2 k1 k2 : Bool} {x1 x2 y1 y2 : Value} {W W' : World} (h : JL u P1 P2 c1 c2 k1 k2 x1 x2 y1 y2 W) (hb : Below W.heap.size W W') : JL u P1 P2 c1 c2 k1 k2 x1 x2 y1 y2 W' :=
  ⟨bl_trans8 h.up hb, h.ch, fun e => h.p1 _ _ _ hb (h.q1 e), fun e => h.p2 _ _ _ hb (h.q2 e), fun e => box_at10 hb (h.r1 e), fun e => box_at10 hb (h.r2 e), h.d12, h.p1, h.p2⟩

theorem JL.call1 {u : World} {P1 P2 : World → Value → Prop} {c1 c2 k1 k2 : Bool} {x1 x2 y1 y2 : Value} {v : Value} {W W' : World} (h : JL u P1 P2 c1 c2 k1 k2 x1 x2 y1 y2 W) (hb : Below W.heap.size W W') (hv : P1 W' v) : JL u P1 P2 true c2 k1 k2 v x2 y1 y2 W' :=
  have j := h.below hb
  ⟨j.up, fun _ => rfl, fun _ => hv, j.q2, j.r1, j.r2, j.d12, j.p1, j.p2⟩

theorem JL.call2 {u : World} {P1 P2 : World → Value → Prop} {c2 k1 k2 : Bool} {x1 x2 y1 y2 v : Value} {W W' : World} (h : JL u P1 P2 true c2 k1 k2 x1 x2 y1 y2 W) (hb : Below W.heap.size W W') (hv : P2 W' v) : JL u P1 P2 true true k1 k2 x1 v y1 y2 W' :=
  have j := h.below hb
  ⟨j.up, fun _ => rfl, j.q1, fun _ => hv, j.r1, j.r2, j.d12, j.p1, j.p2⟩

theorem JL.make1 {u : World} {P1 P2 : World → Value → Prop} {c1 c2 k1 k2 : Bool} {x1 x2 y1 y2 : Value} {W : World} (h : JL u P1 P2 c1 c2 k1 k2 x1 x2 y1 y2 W) :
    JL u P1 P2 c1 c2 true k2 x1 x2 (.pointer (some ⟨W.heap.size, 0, none⟩)) y2 (W.alloc (.cells #[.slice none 0 0, .slice none 0 0, .bool false, .slice none 0 0, .int .i64 0, .bool false, .slice none 0 0, .int .i64 0] 35)) :=
  have j := h.below (below_one6 W (.cells #[.slice none 0 0, .slice none 0 0, .bool false, .slice none 0 0, .int .i64 0, .bool false, .slice none 0 0, .int .i64 0] 35))
  ⟨j.up, j.ch, j.q1, j.q2, fun _ => ⟨_, rfl, h.up.size, heap_alloc_new _ _⟩, j.r2, fun _ e => (box_old10 (h.r2 e)).symm, j.p1, j.p2⟩

theorem JL.make2 {u : World} {P1 P2 : World → Value → Prop} {c1 c2 k1 k2 : Bool} {x1 x2 y1 y2 : Value} {W : World} (h : JL u P1 P2 c1 c2 k1 k2 x1 x2 y1 y2 W) :
    JL u P1 P2 c1 c2 k1 true x1 x2 y1 (.pointer (some ⟨W.heap.size, 0, none⟩)) (W.alloc (.cells #[.slice none 0 0, .slice none 0 0, .bool false, .slice none 0 0, .int .i64 0, .bool false, .slice none 0 0, .int .i64 0] 35)) :=
  have j := h.below (below_one6 W (.cells #[.slice none 0 0, .slice none 0 0, .bool false, .slice none 0 0, .int .i64 0, .bool false, .slice none 0 0, .int .i64 0] 35))
  ⟨j.up, j.ch, j.q1, j.q2, j.r1, fun _ => ⟨_, rfl, h.up.size, heap_alloc_new _ _⟩, fun e _ => box_old10 (h.r1 e), j.p1, j.p2⟩

theorem JL.start {u : World} {P1 P2 : World → Value → Prop} (p1 : ∀ W W' x, Below W.heap.size W W' → P1 W x → P1 W' x) (p2 : ∀ W W' x, Below W.heap.size W W' → P2 W x → P2 W' x) (x1 x2 y1 y2 : Value) {W : World} (h : Below u.heap.size u W) : JL u P1 P2 false false false false x1 x2 y1 y2 W :=
  ⟨h, nofun, nofun, nofun, nofun, nofun, nofun, p1, p2⟩

/-- How many operations are to come, the two stores with them. -/
def leftL (c1 c2 k1 k2 : Bool) : Nat := 2 + (!c1).toNat + (!c2).toNat + (!k1).toNat + (!k2).toNat

theorem dp2l {P : Program} {md : Region.Mode} {ops : Array Oper} {Q : Exit → Act → World → Prop} {S : World → Prop} (u : World) (P1 P2 : World → Value → Prop) (p1 : ∀ W W' x, Below W.heap.size W W' → P1 W x → P1 W' x) (p2 : ∀ W W' x, Below W.heap.size W W' → P2 W x → P2 W' x) (s1 s2 t1 t2 : Nat) (LST : Bool → Bool → Bool → Bool → Array Bool) {W : World} {n : Nat} {listed : Array Bool} {a : Act} (hn : n = 6) (hl : listed = LST false false false false) (ha : a = (((a.put (some s1) undef).put (some s2) undef).put (some t1) undef).put (some t2) undef) (hu : Below u.heap.size u W)
    (h : ∀ (n : Nat) (c1 c2 k1 k2 : Bool) (x1 x2 y1 y2 : Value) (W : World), n = leftL c1 c2 k1 k2 → JL u P1 P2 c1 c2 k1 k2 x1 x2 y1 y2 W → wpAnyH P md ops Q S n (LST c1 c2 k1 k2) ((((a.put (some s1) x1).put (some s2) x2).put (some t1) y1).put (some t2) y2) W) :
    wpAnyH P md ops Q S n listed a W := by
  subst hn hl
  rw [ha]
  exact h 6 _ _ _ _ _ _ _ _ W rfl (JL.start p1 p2 _ _ _ _ hu)

/-- Two spans that were lent, in two boxes. -/
def TwoL (u : World) (b0 : Bool) (z0 : List Nat) (e0 : Int) (b1 : Bool) (z1 : List Nat) (e1 : Int) (b2 : Bool) (z2 : List Nat) (e2 : Int) (b3 : Bool) (z3 : List Nat) (e3 : Int) (s t : Value) (wx : World) : Prop :=
  ∃ (g h : Nat) (pu : Option Addr) (pmu pnu : Nat) (pv : Option Addr) (pmv pnv : Nat) (px : Option Addr) (pcx : Nat) (py : Option Addr) (pcy : Nat) (qu : Option Addr) (qmu qnu : Nat) (qv : Option Addr) (qmv qnv : Nat) (qx : Option Addr) (qcx : Nat) (qy : Option Addr) (qcy : Nat), s = .pointer (some ⟨g, 0, none⟩) ∧ t = .pointer (some ⟨h, 0, none⟩) ∧ wx.heap[g]? = some (.cells #[.slice pu pmu pnu, .slice pv pmv pnv, .bool b0, .slice px z0.length pcx, .int .i64 e0, .bool b1, .slice py z1.length pcy, .int .i64 e1] 35) ∧ wx.heap[h]? = some (.cells #[.slice qu qmu qnu, .slice qv qmv qnv, .bool b2, .slice qx z2.length qcx, .int .i64 e2, .bool b3, .slice qy z3.length qcy, .int .i64 e3] 35) ∧ (Lent wx (.slice pu pmu pnu) z0 ∧ Lent wx (.slice pv pmv pnv) z1 ∧ Arg wx (.slice px z0.length pcx) z0 ∧ Arg wx (.slice py z1.length pcy) z1) ∧ (Lent wx (.slice qu qmu qnu) z2 ∧ Lent wx (.slice qv qmv qnv) z3 ∧ Arg wx (.slice qx z2.length qcx) z2 ∧ Arg wx (.slice qy z3.length qcy) z3) ∧ Below u.heap.size u wx

theorem two_ll {u W : World} {g h : Nat} {b0 : Bool} {z0 : List Nat} {e0 : Int} {b1 : Bool} {z1 : List Nat} {e1 : Int} {b2 : Bool} {z2 : List Nat} {e2 : Int} {b3 : Bool} {z3 : List Nat} {e3 : Int} {pu : Option Addr} {pmu pnu : Nat} {pv : Option Addr} {pmv pnv : Nat} {px : Option Addr} {pcx : Nat} {py : Option Addr} {pcy : Nat} {qu : Option Addr} {qmu qnu : Nat} {qv : Option Addr} {qmv qnv : Nat} {qx : Option Addr} {qcx : Nat} {qy : Option Addr} {qcy : Nat} (e1' : W.heap[g]? = some (.cells #[.slice none 0 0, .slice none 0 0, .bool false, .slice none 0 0, .int .i64 0, .bool false, .slice none 0 0, .int .i64 0] 35)) (e2' : W.heap[h]? = some (.cells #[.slice none 0 0, .slice none 0 0, .bool false, .slice none 0 0, .int .i64 0, .bool false, .slice none 0 0, .int .i64 0] 35)) (fp : Lent W (.slice pu pmu pnu) z0 ∧ Lent W (.slice pv pmv pnv) z1 ∧ Arg W (.slice px z0.length pcx) z0 ∧ Arg W (.slice py z1.length pcy) z1) (fq : Lent W (.slice qu qmu qnu) z2 ∧ Lent W (.slice qv qmv qnv) z3 ∧ Arg W (.slice qx z2.length qcx) z2 ∧ Arg W (.slice qy z3.length qcy) z3) (hu : Below u.heap.size u W) (lg : u.heap.size ≤ g) (lh : u.heap.size ≤ h) (hne : g ≠ h) :
    TwoL u b0 z0 e0 b1 z1 e1 b2 z2 e2 b3 z3 e3 (.pointer (some ⟨g, 0, none⟩)) (.pointer (some ⟨h, 0, none⟩)) (set8 (set8 W g (.slice pu pmu pnu) (.slice pv pmv pnv) (.bool b0) (.slice px z0.length pcx) (.int .i64 e0) (.bool b1) (.slice py z1.length pcy) (.int .i64 e1)) h (.slice qu qmu qnu) (.slice qv qmv qnv) (.bool b2) (.slice qx z2.length qcx) (.int .i64 e2) (.bool b3) (.slice qy z3.length qcy) (.int .i64 e3)) := by
  have t2 : (set8 W g (.slice pu pmu pnu) (.slice pv pmv pnv) (.bool b0) (.slice px z0.length pcx) (.int .i64 e0) (.bool b1) (.slice py z1.length pcy) (.int .i64 e1)).heap[h]? = some (.cells #[.slice none 0 0, .slice none 0 0, .bool false, .slice none 0 0, .int .i64 0, .bool false, .slice none 0 0, .int .i64 0] 35) := (octa_other (Ne.symm hne) _ _ _ _ _ _ _ _).trans e2'
  refine ⟨g, h, pu, pmu, pnu, pv, pmv, pnv, px, pcx, py, pcy, qu, qmu, qnu, qv, qmv, qnv, qx, qcx, qy, qcy, rfl, rfl, (octa_other hne _ _ _ _ _ _ _ _).trans (octa_all e1' _ _ _ _ _ _ _ _), octa_all t2 _ _ _ _ _ _ _ _, ⟨?_, ?_, ?_, ?_⟩, ⟨?_, ?_, ?_, ?_⟩, below_octa (below_octa hu lg _ _ _ _ _ _ _ _) lh _ _ _ _ _ _ _ _⟩
  · exact (fp.1.octa e1' _ _ _ _ _ _ _ _).octa t2 _ _ _ _ _ _ _ _
  · exact (fp.2.1.octa e1' _ _ _ _ _ _ _ _).octa t2 _ _ _ _ _ _ _ _
  · exact (fp.2.2.1.octa e1' _ _ _ _ _ _ _ _).octa t2 _ _ _ _ _ _ _ _
  · exact (fp.2.2.2.octa e1' _ _ _ _ _ _ _ _).octa t2 _ _ _ _ _ _ _ _
  · exact (fq.1.octa e1' _ _ _ _ _ _ _ _).octa t2 _ _ _ _ _ _ _ _
  · exact (fq.2.1.octa e1' _ _ _ _ _ _ _ _).octa t2 _ _ _ _ _ _ _ _
  · exact (fq.2.2.1.octa e1' _ _ _ _ _ _ _ _).octa t2 _ _ _ _ _ _ _ _
  · exact (fq.2.2.2.octa e1' _ _ _ _ _ _ _ _).octa t2 _ _ _ _ _ _ _ _

end Go.Proofs.YtppkhhbhnhijpaaGreatDoor
