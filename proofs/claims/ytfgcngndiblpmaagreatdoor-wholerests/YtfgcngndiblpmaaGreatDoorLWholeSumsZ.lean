/- The walk of the law WholeSums. -/
import Derived.Test.YtfgcngndiblpmaaGreatDoorQ8
namespace Go.Proofs.YtfgcngndiblpmaaGreatDoor
open Go.RowKit
open Lm
attribute [local go_sem ↓] Go.wp_at_zero Go.wp_at_succ

theorem bl_alloc {W0 W : World} (h : Below W0.heap.size W0 W) (o : Obj) : Below W0.heap.size W0 (W.alloc o) := h.alloc h.size _

theorem bl_trans {W0 W t : World} (h : Below W0.heap.size W0 W) (h2 : Below W.heap.size W t) : Below W0.heap.size W0 t := h.trans (h2.mono h.size)

theorem cell_keep {W : World} {g k : Nat} {v : Value} (h : W.cell? ⟨g, k, none⟩ = some v) (o : Obj) : (W.alloc o).cell? ⟨g, k, none⟩ = some v := cell_up6 (below_one6 W o) h

theorem cell_set_keep {W : World} {g k g' k' : Nat} {u v : Value} (h : W.cell? ⟨g', k', none⟩ = some v) (hne : g ≠ g') : (W.setCell ⟨g, k, none⟩ u).cell? ⟨g', k', none⟩ = some v := by rw [cell_otherW hne]; exact h

theorem lt_of_cell {W : World} {g k : Nat} {v : Value} (h : W.cell? ⟨g, k, none⟩ = some v) : g < W.heap.size := by
  rcases Nat.lt_or_ge g W.heap.size with h' | h'
  · exact h'
  · simp [World.cell?, Array.getElem?_eq_none h'] at h

theorem block_keep {W : World} {g : Nat} {x : Obj} (h : W.heap[g]? = some x) (o : Obj) : (W.alloc o).heap[g]? = some x := block_upW (below_one6 W o) h

theorem made1 {W t : World} {o : Obj} (h : Below (W.alloc o).heap.size (W.alloc o) t) : t.heap[W.heap.size]? = some o := block_upW h (heap_alloc_new W o)

theorem made21 {W t : World} {o1 o2 : Obj} (h : Below ((W.alloc o1).alloc o2).heap.size ((W.alloc o1).alloc o2) t) : t.heap[W.heap.size]? = some o1 := block_upW h (block_keep (heap_alloc_new W o1) o2)

theorem made2 {W t : World} {o1 o2 : Obj} (h : Below ((W.alloc o1).alloc o2).heap.size ((W.alloc o1).alloc o2) t) : t.heap[W.heap.size + 1]? = some o2 := by
  have h2 := heap_alloc_new (W.alloc o1) o2
  rw [World.size_alloc] at h2
  exact block_upW h h2

theorem made1d {W t : World} {o : Obj} (h : Below (W.alloc o).drew.heap.size (W.alloc o).drew t) : t.heap[W.heap.size]? = some o := block_upW h (heap_alloc_new W o)

theorem made21d {W t : World} {o1 o2 : Obj} (h : Below ((W.alloc o1).alloc o2).drew.heap.size ((W.alloc o1).alloc o2).drew t) : t.heap[W.heap.size]? = some o1 := block_upW h (show ((W.alloc o1).alloc o2).heap[W.heap.size]? = some o1 from block_keep (heap_alloc_new W o1) o2)

theorem made2d {W t : World} {o1 o2 : Obj} (h : Below ((W.alloc o1).alloc o2).drew.heap.size ((W.alloc o1).alloc o2).drew t) : t.heap[W.heap.size + 1]? = some o2 := by
  have h2 := heap_alloc_new (W.alloc o1) o2
  rw [World.size_alloc] at h2
  exact block_upW h (show ((W.alloc o1).alloc o2).drew.heap[W.heap.size + 1]? = some o2 from h2)

theorem bl_drew {W0 W : World} (h : Below W0.heap.size W0 W) : Below W0.heap.size W0 W.drew := h.drew

theorem cell_drew6 {W : World} {g k : Nat} {v : Value} (h : W.cell? ⟨g, k, none⟩ = some v) : W.drew.cell? ⟨g, k, none⟩ = some v := h

theorem up0 {W t : World} {g : Nat} {x : Obj} (h : Below W.heap.size W t) (hx : W.heap[g]? = some x) : t.heap[g]? = some x := block_upW h hx

theorem up1 {W t : World} {g : Nat} {x o : Obj} (h : Below (W.alloc o).heap.size (W.alloc o) t) (hx : W.heap[g]? = some x) : t.heap[g]? = some x := block_upW h (block_keep hx o)

theorem frozen_alloc {W : World} {g : Nat} {a b : Value} {t : TypeId} (h : W.heap[g]? = some (.cells #[a, b] t)) (o : Obj) : ∀ k, (W.alloc o).frozen? ⟨g, k, none⟩ = false := duof (block_keep h o)

/-- Two boxes with the document's two numbers. -/
def TwoBox (u : World) (zA zB : Int) (s t : Value) (wx : World) : Prop :=
  ∃ (g h : Nat) (bm : Bool) (am : Option Addr) (nm km : Nat) (bn : Bool) (an : Option Addr) (nn kn : Nat), s = .pointer (some ⟨g, 0, none⟩) ∧ t = .pointer (some ⟨h, 0, none⟩) ∧
    wx.heap[g]? = some (.cells #[.bool bm, .slice am nm km] 32) ∧ wx.heap[h]? = some (.cells #[.bool bn, .slice an nn kn] 32) ∧ Zn wx (.agg #[.bool bm, .slice am nm km]) zA ∧ Zn wx (.agg #[.bool bn, .slice an nn kn]) zB ∧ Below u.heap.size u wx

theorem new_next (W : World) (o1 o2 : Obj) : ((W.alloc o1).alloc o2).heap[W.heap.size + 1]? = some o2 := by
  have h := heap_alloc_new (W.alloc o1) o2
  rw [World.size_alloc] at h
  exact h

theorem two_aa {u tn : World} {zA zB : Int} {bm : Bool} {am : Option Addr} {nm km : Nat} {bn : Bool} {an : Option Addr} {nn kn : Nat} (ym : Zn tn (.agg #[.bool bm, .slice am nm km]) zA) (yn : Zn tn (.agg #[.bool bn, .slice an nn kn]) zB) (gn : Below u.heap.size u tn) :
    TwoBox u zA zB (.pointer (some ⟨tn.heap.size, 0, none⟩)) (.pointer (some ⟨tn.heap.size + 1, 0, none⟩)) ((tn.alloc (.cells #[.bool bm, .slice am nm km] 32)).alloc (.cells #[.bool bn, .slice an nn kn] 32)) :=
  ⟨_, _, bm, am, nm, km, bn, an, nn, kn, rfl, rfl, block_keep (heap_alloc_new _ _) _, new_next _ _ _, (ym.below (below_one6 _ _)).below (below_one6 _ _), (yn.below (below_one6 _ _)).below (below_one6 _ _), bl_alloc (bl_alloc gn _) _⟩

theorem two_aa2 {u tn : World} {zA zB : Int} {bm : Bool} {am : Option Addr} {nm km : Nat} {bn : Bool} {an : Option Addr} {nn kn : Nat} (ym : Zn tn (.agg #[.bool bm, .slice am nm km]) zA) (yn : Zn tn (.agg #[.bool bn, .slice an nn kn]) zB) (gn : Below u.heap.size u tn) :
    TwoBox u zA zB (.pointer (some ⟨tn.heap.size + 1, 0, none⟩)) (.pointer (some ⟨tn.heap.size, 0, none⟩)) ((tn.alloc (.cells #[.bool bn, .slice an nn kn] 32)).alloc (.cells #[.bool bm, .slice am nm km] 32)) :=
  ⟨_, _, bm, am, nm, km, bn, an, nn, kn, rfl, rfl, new_next _ _ _, block_keep (heap_alloc_new _ _) _, (ym.below (below_one6 _ _)).below (below_one6 _ _), (yn.below (below_one6 _ _)).below (below_one6 _ _), bl_alloc (bl_alloc gn _) _⟩

theorem two_sa {u tn : World} {zA zB : Int} {g : Nat} {bm : Bool} {am : Option Addr} {nm km : Nat} {bn : Bool} {an : Option Addr} {nn kn : Nat} (hq : tn.heap[g]? = some (.cells #[.bool false, .slice none 0 0] 32)) (ym : Zn tn (.agg #[.bool bm, .slice am nm km]) zA) (yn : Zn tn (.agg #[.bool bn, .slice an nn kn]) zB) (gn : Below u.heap.size u tn) (hg : u.heap.size ≤ g) :
    TwoBox u zA zB (.pointer (some ⟨g, 0, none⟩)) (.pointer (some ⟨tn.heap.size, 0, none⟩)) (((tn.setCell ⟨g, 0, none⟩ (.bool bm)).setCell ⟨g, 1, none⟩ (.slice am nm km)).alloc (.cells #[.bool bn, .slice an nn kn] 32)) := by
  have hs : ((tn.setCell ⟨g, 0, none⟩ (.bool bm)).setCell ⟨g, 1, none⟩ (.slice am nm km)).heap.size = tn.heap.size := by simp
  refine ⟨_, _, bm, am, nm, km, bn, an, nn, kn, rfl, rfl, block_keep (duo_all hq) _, ?_, (ym.duo hq).below (below_one6 _ _), (yn.duo hq).below (below_one6 _ _), bl_alloc (below_duo gn hg) _⟩
  rw [← hs]
  exact heap_alloc_new _ _

theorem two_sa2 {u tn : World} {zA zB : Int} {g : Nat} {bm : Bool} {am : Option Addr} {nm km : Nat} {bn : Bool} {an : Option Addr} {nn kn : Nat} (hq : tn.heap[g]? = some (.cells #[.bool false, .slice none 0 0] 32)) (ym : Zn tn (.agg #[.bool bm, .slice am nm km]) zA) (yn : Zn tn (.agg #[.bool bn, .slice an nn kn]) zB) (gn : Below u.heap.size u tn) (hg : u.heap.size ≤ g) :
    TwoBox u zA zB (.pointer (some ⟨tn.heap.size, 0, none⟩)) (.pointer (some ⟨g, 0, none⟩)) (((tn.setCell ⟨g, 0, none⟩ (.bool bn)).setCell ⟨g, 1, none⟩ (.slice an nn kn)).alloc (.cells #[.bool bm, .slice am nm km] 32)) := by
  have hs : ((tn.setCell ⟨g, 0, none⟩ (.bool bn)).setCell ⟨g, 1, none⟩ (.slice an nn kn)).heap.size = tn.heap.size := by simp
  refine ⟨_, _, bm, am, nm, km, bn, an, nn, kn, rfl, rfl, ?_, block_keep (duo_all hq) _, (ym.duo hq).below (below_one6 _ _), (yn.duo hq).below (below_one6 _ _), bl_alloc (below_duo gn hg) _⟩
  rw [← hs]
  exact heap_alloc_new _ _

theorem two_ss {u tn : World} {zA zB : Int} {g h : Nat} {bm : Bool} {am : Option Addr} {nm km : Nat} {bn : Bool} {an : Option Addr} {nn kn : Nat} (hq : tn.heap[g]? = some (.cells #[.bool false, .slice none 0 0] 32)) (hr : tn.heap[h]? = some (.cells #[.bool false, .slice none 0 0] 32)) (ym : Zn tn (.agg #[.bool bm, .slice am nm km]) zA) (yn : Zn tn (.agg #[.bool bn, .slice an nn kn]) zB) (gn : Below u.heap.size u tn) (hg : u.heap.size ≤ g) (hh : u.heap.size ≤ h) (hne : g ≠ h) :
    TwoBox u zA zB (.pointer (some ⟨g, 0, none⟩)) (.pointer (some ⟨h, 0, none⟩)) ((((tn.setCell ⟨g, 0, none⟩ (.bool bm)).setCell ⟨g, 1, none⟩ (.slice am nm km)).setCell ⟨h, 0, none⟩ (.bool bn)).setCell ⟨h, 1, none⟩ (.slice an nn kn)) := by
  have h4 := duo_other (u0 := .bool bm) (u1 := .slice am nm km) hr (Ne.symm hne)
  exact ⟨_, _, bm, am, nm, km, bn, an, nn, kn, rfl, rfl, duo_other (duo_all hq) hne, duo_all h4, (ym.duo hq).duo h4, (yn.duo hq).duo h4, below_duo (below_duo gn hg) hh⟩

end Go.Proofs.YtfgcngndiblpmaaGreatDoor
