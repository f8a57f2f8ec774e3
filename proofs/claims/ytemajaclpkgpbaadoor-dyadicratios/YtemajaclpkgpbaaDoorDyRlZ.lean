/- What the law DyadicRatios uses. -/
import Derived.Test.YtemajaclpkgpbaaDoorDyRtZ
import Derived.Test.YtemajaclpkgpbaaDoorDyTZ
import Derived.Test.YtemajaclpkgpbaaDoorQ9
import Derived.Test.YtemajaclpkgpbaaDoorDyZnZ
import Derived.Test.YtemajaclpkgpbaaDoorRzSZ
import Derived.Test.YtemajaclpkgpbaaDoorQR
import Derived.Test.YtemajaclpkgpbaaDoorQH
namespace Go.Proofs.YtemajaclpkgpbaaDoor
open Go.RowKit
open Lm

theorem zero_box3 (w : World) (t : TypeId) : ∃ w1 w2, w.alloc (.cells #[.bool false, .slice none 0 0] t) = w1 ∧ (w1.setCell ⟨w.heap.size, 0, none⟩ (.bool false)).setCell ⟨w.heap.size, 1, none⟩ (.slice none 0 0) = w2 ∧ w1.heap[w.heap.size]? = some (.cells #[.bool false, .slice none 0 0] t) ∧ w2.heap[w.heap.size]? = some (.cells #[.bool false, .slice none 0 0] t) ∧ Below w.heap.size w w2 := by
  obtain ⟨w1, e1, b1, c1⟩ := enter1 w (.cells #[.bool false, .slice none 0 0] t)
  exact ⟨w1, _, e1, rfl, c1, duo_all c1, below_duo b1 (Nat.le_refl _)⟩

/-- A box of two cells written over. -/
theorem put3 {U W : World} {g : Nat} {p : Bool} {a : Option Addr} {n c : Nat} {t : TypeId} (hU : Below U.heap.size U W) (hg : U.heap.size ≤ g) (hw : W.heap[g]? = some (.cells #[.bool p, .slice a n c] t)) (p1 : Bool) (a1 : Option Addr) (n1 c1 : Nat) :
    ∃ W', (W.setCell ⟨g, 0, none⟩ (.bool p1)).setCell ⟨g, 1, none⟩ (.slice a1 n1 c1) = W' ∧ Below U.heap.size U W' ∧ W'.heap[g]? = some (.cells #[.bool p1, .slice a1 n1 c1] t) ∧ (∀ v z, Zn W v z → Zn W' v z) :=
  ⟨_, rfl, below_duo hU hg, duo_all hw, fun _ _ hd => hd.duo hw⟩

theorem len_is (v : Value) (x l : Nat) (w : World) (hn : Num w v x) (hl : blen x = l) :
    Calls Tryd.prog 24 #[v] w fun e w' => e = .returned (.int .i64 (l : Int)) ∧ w' = w := by
  have h := len_any v x w hn
  rw [hl] at h
  exact h

theorem int_one (w : World) : Calls Tryd.prog 22 #[.int .i64 1] w fun e w' => (∃ a n k, e = .returned (.slice a n k) ∧ Num w' (.slice a n k) 1) ∧ Below w.heap.size w w' := by
  refine Calls.mono (show Calls Tryd.prog 22 #[.int .i64 1] w _ from rint_all 1 w (by decide)) fun e w' h => ?_
  obtain ⟨⟨v, h1, h2⟩, h3⟩ := h
  obtain ⟨a, n, k, rfl⟩ := h2.sl
  exact ⟨⟨a, n, k, h1, h2⟩, h3⟩

theorem blen_1 : blen 1 = 1 := Nat.le_antisymm ((blen_le_iff _ _).2 (by decide)) (by
  apply Classical.byContradiction
  intro h
  have := (blen_le_iff 1 0).1 (by omega)
  omega)

theorem blen_two (n : Nat) : blen (2 ^ n) = n + 1 := by
  have := blen_shl 1 n (by decide)
  rw [Nat.one_mul, blen_1] at this
  omega

theorem blen_up (M : Int) (n : Nat) (h : M ≠ 0) : blen (M * 2 ^ n).natAbs = blen M.natAbs + n := by
  rw [Int.natAbs_mul, Int.natAbs_pow, show (2 : Int).natAbs = 2 from rfl]
  exact blen_shl _ _ (by omega)

/-- The denominator, and the numerator's box. -/
def OneS (U : World) (g : Nat) (o : Obj) (x : Nat) (s : Value) (wx : World) : Prop :=
  ∃ (a : Option Addr) (n k : Nat), s = .slice a n k ∧ Num wx (.slice a n k) x ∧ wx.heap[g]? = some o ∧ Below U.heap.size U wx

theorem RatR.fits {w w' : World} {N : Int} {D : Nat} {e : Ending} (h : RatR w N D e w') (h1 : blen N.natAbs ≤ 67108864) (h2 : blen D ≤ 67108864) :
    (∃ b a n k a2 n2 k2, e = .returned (.tuple #[.agg #[.bool b, .slice a n k, .slice a2 n2 k2], .int .i64 0]) ∧ (b = decide (N < 0) ∧ ∃ rs ds, Chain w' w.heap.size [.slice a n k, .slice a2 n2 k2] [rs, ds] ∧ val rs = N.natAbs ∧ tr rs = rs ∧ val ds = D ∧ tr ds = ds ∧ rs.length ≤ 1048576 ∧ ds.length ≤ 1048576)) ∧ Below w.heap.size w w' := by
  obtain ⟨⟨b, a, n, k, a2, n2, k2, c, he, h | h⟩, hb⟩ := h
  · obtain ⟨rfl, _, _, h5⟩ := h
    exact ⟨⟨b, a, n, k, a2, n2, k2, he, h5⟩, hb⟩
  · obtain ⟨_, _, _, _, _, _, _, _, h9⟩ := h
    omega

theorem RatR.big {w w' : World} {N : Int} {D : Nat} {e : Ending} (h : RatR w N D e w') (h1 : 67108864 < blen N.natAbs ∨ 67108864 < blen D) : RErr 3 e ∧ Below w.heap.size w w' := by
  obtain ⟨⟨b, a, n, k, a2, n2, k2, c, he, h | h⟩, hb⟩ := h
  · obtain ⟨_, _, _, _⟩ := h
    omega
  · obtain ⟨rfl, rfl, rfl, rfl, rfl, rfl, rfl, rfl, _⟩ := h
    exact ⟨he, hb⟩

end Go.Proofs.YtemajaclpkgpbaaDoor
