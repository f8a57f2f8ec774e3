/- What the law DyadicCuts uses: boxes that are written over. -/
import Derived.Test.YtemajaclpkgpbaaDoorDyRuZ
import Derived.Test.YtemajaclpkgpbaaDoorDyWhZ
import Derived.Test.YtemajaclpkgpbaaDoorDyTZ
import Derived.Test.YtemajaclpkgpbaaDoorQ9
import Derived.Test.YtemajaclpkgpbaaDoorQH
namespace Go.Proofs.YtemajaclpkgpbaaDoor
open Go.RowKit
open Lm

theorem DR.own10 {w : World} {base : Nat} {b : Bool} {va : Value} {ex c M E : Int} (h : DR w base b va ex c M E) : ∃ rs, Ans w base va rs ∧ rs.length ≤ 1048576 := by
  obtain ⟨rs, h1, h2 | h2 | h2⟩ := h
  · exact ⟨rs, h1, few_ofW h2.2.2.2.1 h2.2.2.1 (by have := h2.2.2.2.2.2.1; omega)⟩
  · exact ⟨rs, h1, by rw [h2.2.2.2.2.1]; simp⟩
  · exact ⟨rs, h1, by rw [h2.2.2.2.2.1]; simp⟩

theorem ZR.own10 {w : World} {base : Nat} {b : Bool} {va : Value} {c z : Int} (h : ZR w base b va c z) : ∃ rs, Ans w base va rs ∧ rs.length ≤ 1048576 ∧ (blen z.natAbs ≤ 67108864 → c = 0 ∧ b = decide (z < 0) ∧ val rs = z.natAbs ∧ tr rs = rs) ∧ (67108864 < blen z.natAbs → c = 3 ∧ b = false ∧ va = .slice none 0 0) := by
  obtain ⟨rs, h1, h2 | h2⟩ := h
  · exact ⟨rs, h1, few_ofW h2.2.2.2.1 h2.2.2.1 (by have := h2.2.2.2.2; omega), fun _ => ⟨h2.1, h2.2.1, h2.2.2.1, h2.2.2.2.1⟩, fun h => absurd h (by omega)⟩
  · exact ⟨rs, h1, by rw [h2.2.2.2.1]; simp, fun h => absurd h (by omega), fun _ => ⟨h2.1, h2.2.1, h2.2.2.1⟩⟩

/-- New boxes of 0, and 0 put into them. -/
theorem zero_box10 (w : World) (t : TypeId) : ∃ w1 w2, w.alloc (.cells #[.bool false, .slice none 0 0, .int .i64 0] t) = w1 ∧ ((w1.setCell ⟨w.heap.size, 0, none⟩ (.bool false)).setCell ⟨w.heap.size, 1, none⟩ (.slice none 0 0)).setCell ⟨w.heap.size, 2, none⟩ (.int .i64 0) = w2 ∧ w1.heap[w.heap.size]? = some (.cells #[.bool false, .slice none 0 0, .int .i64 0] t) ∧ w2.heap[w.heap.size]? = some (.cells #[.bool false, .slice none 0 0, .int .i64 0] t) ∧ Below w.heap.size w w2 ∧ w2.heap.size = w.heap.size + 1 := by
  obtain ⟨w1, e1, b1, c1⟩ := enter1 w (.cells #[.bool false, .slice none 0 0, .int .i64 0] t)
  refine ⟨w1, _, e1, rfl, c1, tri8_all c1 _ _ _, below_tri8 b1 (Nat.le_refl _) _ _ _, ?_⟩
  have : w1.heap.size = w.heap.size + 1 := by rw [← e1, World.size_alloc]
  simpa [World.setCell] using this

theorem zero_box2 (w : World) (t : TypeId) : ∃ w1 w2, w.alloc (.cells #[.bool false, .slice none 0 0] t) = w1 ∧ (w1.setCell ⟨w.heap.size, 0, none⟩ (.bool false)).setCell ⟨w.heap.size, 1, none⟩ (.slice none 0 0) = w2 ∧ w1.heap[w.heap.size]? = some (.cells #[.bool false, .slice none 0 0] t) ∧ w2.heap[w.heap.size]? = some (.cells #[.bool false, .slice none 0 0] t) ∧ Below w.heap.size w w2 := by
  obtain ⟨w1, e1, b1, c1⟩ := enter1 w (.cells #[.bool false, .slice none 0 0] t)
  exact ⟨w1, _, e1, rfl, c1, duo_all c1, below_duo b1 (Nat.le_refl _)⟩

/-- A box of three cells written over. -/
theorem put8 {U W : World} {g h : Nat} {p : Bool} {a : Option Addr} {n c : Nat} {e : Int} {t : TypeId} {oz : Obj} (hU : Below U.heap.size U W) (hg : U.heap.size ≤ g) (hw : W.heap[g]? = some (.cells #[.bool p, .slice a n c, .int .i64 e] t)) (hz : W.heap[h]? = some oz) (hne : h ≠ g) (p1 : Bool) (a1 : Option Addr) (n1 c1 : Nat) (e1 : Int) :
    ∃ W', ((W.setCell ⟨g, 0, none⟩ (.bool p1)).setCell ⟨g, 1, none⟩ (.slice a1 n1 c1)).setCell ⟨g, 2, none⟩ (.int .i64 e1) = W' ∧ Below U.heap.size U W' ∧ W'.heap[g]? = some (.cells #[.bool p1, .slice a1 n1 c1, .int .i64 e1] t) ∧ W'.heap[h]? = some oz ∧ (∀ b v M, Dn W b v M → Dn W' b v M) := by
  refine ⟨_, rfl, below_tri8 hU hg _ _ _, tri8_all hw _ _ _, ?_, fun b v M hd => hd.tri8 hw p1 a1 n1 c1 (.int .i64 e1)⟩
  rw [Below.heap_setCell _ _ _ _ hne, Below.heap_setCell _ _ _ _ hne, Below.heap_setCell _ _ _ _ hne]; exact hz

/-- A box of two cells written over. -/
theorem put2 {U W : World} {g h : Nat} {p : Bool} {a : Option Addr} {n c : Nat} {t : TypeId} {oz : Obj} (hU : Below U.heap.size U W) (hg : U.heap.size ≤ g) (hw : W.heap[g]? = some (.cells #[.bool p, .slice a n c] t)) (hz : W.heap[h]? = some oz) (hne : h ≠ g) (p1 : Bool) (a1 : Option Addr) (n1 c1 : Nat) :
    ∃ W', (W.setCell ⟨g, 0, none⟩ (.bool p1)).setCell ⟨g, 1, none⟩ (.slice a1 n1 c1) = W' ∧ Below U.heap.size U W' ∧ W'.heap[g]? = some (.cells #[.bool p1, .slice a1 n1 c1] t) ∧ W'.heap[h]? = some oz ∧ (∀ b v M, Dn W b v M → Dn W' b v M) ∧ (∀ v z, Zn W v z → Zn W' v z) := by
  refine ⟨_, rfl, below_duo hU hg, duo_all hw, ?_, fun b v M hd => ⟨hd.1, hd.2.duo hw⟩, fun v z hd => hd.duo hw⟩
  exact duo_other hz hne

end Go.Proofs.YtemajaclpkgpbaaDoor
