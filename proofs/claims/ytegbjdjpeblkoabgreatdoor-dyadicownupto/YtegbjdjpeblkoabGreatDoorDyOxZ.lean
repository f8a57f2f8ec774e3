/- What the law DyadicOwn uses. -/
import Derived.Test.YtegbjdjpeblkoabGreatDoorOwnXZ
import Derived.Test.YtegbjdjpeblkoabGreatDoorDySmZ
import Derived.Test.YtegbjdjpeblkoabGreatDoorDyRnZ
import Derived.Test.YtegbjdjpeblkoabGreatDoorDySZ
import Derived.Test.YtegbjdjpeblkoabGreatDoorQ9
import Derived.Test.YtegbjdjpeblkoabGreatDoorDyJZ
namespace Go.Proofs.YtegbjdjpeblkoabGreatDoor
open Go.RowKit
open Lm

theorem DR.fr {w w' : World} {base g : Nat} {b : Bool} {va : Value} {ex c M E : Int} (h : DR w base b va ex c M E) (hf : Fr g w w') (hg : g < base) : DR w' base b va ex c M E := by
  obtain ⟨rs, h1, h2⟩ := h
  exact ⟨rs, h1.fr hf hg, h2⟩

theorem made1d9 {W t : World} {o : Obj} (h : Below (W.alloc o).drew.heap.size (W.alloc o).drew t) : t.heap[W.heap.size]? = some o := block_upW h (heap_alloc_new W o)

theorem made19 {W t : World} {o : Obj} (h : Below (W.alloc o).heap.size (W.alloc o) t) : t.heap[W.heap.size]? = some o := block_upW h (heap_alloc_new W o)

/-- A box with an answer. -/
def OneY (U : World) (M E : Int) (s f : Value) (wx : World) : Prop :=
  ∃ (g : Nat) (b : Bool) (a : Option Addr) (n k : Nat) (e' f' : Int), s = .pointer (some ⟨g, 0, none⟩) ∧ f = .int .i64 f' ∧ wx.heap[g]? = some (.cells #[.bool b, .slice a n k, .int .i64 e'] 39) ∧ DR wx U.heap.size b (.slice a n k) e' f' M E ∧ Below U.heap.size U wx ∧ U.heap.size ≤ g

theorem one_y {U t : World} {M E : Int} {b : Bool} {a : Option Addr} {n k : Nat} {e' f' : Int} {base : Nat} (hs : DR t base b (.slice a n k) e' f' M E) (hb : U.heap.size ≤ base) (g : Below U.heap.size U t) : OneY U M E (.pointer (some ⟨t.heap.size, 0, none⟩)) (.int .i64 f') (t.alloc (.cells #[.bool b, .slice a n k, .int .i64 e'] 39)) :=
  ⟨_, b, a, n, k, e', f', rfl, rfl, heap_alloc_new _ _, (hs.base hb).below (below_one6 _ _), bl_alloc8 g _, g.size⟩

theorem one_ys {U t : World} {M E : Int} {b : Bool} {a : Option Addr} {n k : Nat} {e' f' : Int} {base : Nat} {gg : Nat} (hq : t.heap[gg]? = some (.cells #[.bool false, .slice none 0 0, .int .i64 0] 39)) (hge : U.heap.size ≤ gg) (hs : DR t base b (.slice a n k) e' f' M E) (hb : U.heap.size ≤ base) (g : Below U.heap.size U t) : OneY U M E (.pointer (some ⟨gg, 0, none⟩)) (.int .i64 f') (((t.setCell ⟨gg, 0, none⟩ (.bool b)).setCell ⟨gg, 1, none⟩ (.slice a n k)).setCell ⟨gg, 2, none⟩ (.int .i64 e')) :=
  ⟨_, b, a, n, k, e', f', rfl, rfl, tri8_all hq _ _ _, (hs.base hb).tri8 hq (by decide) (.bool b) (.slice a n k) (.int .i64 e'), below_tri8 g hge _ _ _, hge⟩

end Go.Proofs.YtegbjdjpeblkoabGreatDoor
