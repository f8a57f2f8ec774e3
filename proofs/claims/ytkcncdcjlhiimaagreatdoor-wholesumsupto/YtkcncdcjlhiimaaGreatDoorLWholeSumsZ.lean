/- The walk of the law WholeSums. -/
import Derived.Test.YtkcncdcjlhiimaaGreatDoorLWMaZ
namespace Go.Proofs.YtkcncdcjlhiimaaGreatDoor
open Go.RowKit
open Lm
attribute [local go_sem ↓] Go.wp_at_zero Go.wp_at_succ

theorem bl_alloc {W0 W : World} (h : Below W0.heap.size W0 W) (o : Obj) : Below W0.heap.size W0 (W.alloc o) := h.alloc h.size _

theorem bl_trans {W0 W t : World} (h : Below W0.heap.size W0 W) (h2 : Below W.heap.size W t) : Below W0.heap.size W0 t := h.trans (h2.mono h.size)

theorem cell_keep {W : World} {g k : Nat} {v : Value} (h : W.cell? ⟨g, k, none⟩ = some v) (o : Obj) : (W.alloc o).cell? ⟨g, k, none⟩ = some v := cell_up6 (below_one6 W o) h

theorem cell_set_keep {W : World} {g k g' k' : Nat} {u v : Value} (h : W.cell? ⟨g', k', none⟩ = some v) (hne : g ≠ g') : (W.setCell ⟨g, k, none⟩ u).cell? ⟨g', k', none⟩ = some v := by rw [cell_otherW hne]; exact h

theorem lt_of_cell {W : World} {g k : Nat} {v : Value} (h : W.cell? ⟨g, k, none⟩ = some v) : g < W.heap.size := by
  rcases Nat.lt_or_ge g W.heap.size with h' | h'
  · exact h'
  · simp [World.cell?, Array.getElem?_eq_none h'] at h

theorem block_keep {W : World} {g : Nat} {x : Obj} (h : W.heap[g]? = some x) (o : Obj) : (W.alloc o).heap[g]? = some x := block_upW (below_one6 W o) h

theorem made1 {W t : World} {o : Obj} (h : Below (W.alloc o).heap.size (W.alloc o) t) : t.heap[W.heap.size]? = some o := block_upW h (heap_alloc_new W o)

theorem made21 {W t : World} {o1 o2 : Obj} (h : Below ((W.alloc o1).alloc o2).heap.size ((W.alloc o1).alloc o2) t) : t.heap[W.heap.size]? = some o1 := block_upW h (block_keep (heap_alloc_new W o1) o2)

theorem made2 {W t : World} {o1 o2 : Obj} (h : Below ((W.alloc o1).alloc o2).heap.size ((W.alloc o1).alloc o2) t) : t.heap[W.heap.size + 1]? = some o2 := by
  have h2 := heap_alloc_new (W.alloc o1) o2
  rw [World.size_alloc] at h2
  exact block_upW h h2

theorem made1d {W t : World} {o : Obj} (h : Below (W.alloc o).drew.heap.size (W.alloc o).drew t) : t.heap[W.heap.size]? = some o := block_upW h (heap_alloc_new W o)

theorem made21d {W t : World} {o1 o2 : Obj} (h : Below ((W.alloc o1).alloc o2).drew.heap.size ((W.alloc o1).alloc o2).drew t) : t.heap[W.heap.size]? = some o1 := block_upW h (show ((W.alloc o1).alloc o2).heap[W.heap.size]? = some o1 from block_keep (heap_alloc_new W o1) o2)

theorem made2d {W t : World} {o1 o2 : Obj} (h : Below ((W.alloc o1).alloc o2).drew.heap.size ((W.alloc o1).alloc o2).drew t) : t.heap[W.heap.size + 1]? = some o2 := by
  have h2 := heap_alloc_new (W.alloc o1) o2
  rw [World.size_alloc] at h2
  exact block_upW h (show ((W.alloc o1).alloc o2).drew.heap[W.heap.size + 1]? = some o2 from h2)

theorem bl_drew {W0 W : World} (h : Below W0.heap.size W0 W) : Below W0.heap.size W0 W.drew := h.drew

theorem cell_drew6 {W : World} {g k : Nat} {v : Value} (h : W.cell? ⟨g, k, none⟩ = some v) : W.drew.cell? ⟨g, k, none⟩ = some v := h

theorem up0 {W t : World} {g : Nat} {x : Obj} (h : Below W.heap.size W t) (hx : W.heap[g]? = some x) : t.heap[g]? = some x := block_upW h hx

theorem up1 {W t : World} {g : Nat} {x o : Obj} (h : Below (W.alloc o).heap.size (W.alloc o) t) (hx : W.heap[g]? = some x) : t.heap[g]? = some x := block_upW h (block_keep hx o)

theorem frozen_alloc {W : World} {g : Nat} {a b : Value} {t : TypeId} (h : W.heap[g]? = some (.cells #[a, b] t)) (o : Obj) : ∀ k, (W.alloc o).frozen? ⟨g, k, none⟩ = false := duof (block_keep h o)

/-- Two boxes with the document's two numbers. -/
def TwoBox (u : World) (zA zB : Int) (s t : Value) (wx : World) : Prop :=
  ∃ (g h : Nat) (bm : Bool) (am : Option Addr) (nm km : Nat) (bn : Bool) (an : Option Addr) (nn kn : Nat), s = .pointer (some ⟨g, 0, none⟩) ∧ t = .pointer (some ⟨h, 0, none⟩) ∧
    wx.heap[g]? = some (.cells #[.bool bm, .slice am nm km] 32) ∧ wx.heap[h]? = some (.cells #[.bool bn, .slice an nn kn] 32) ∧ Zn wx (.agg #[.bool bm, .slice am nm km]) zA ∧ Zn wx (.agg #[.bool bn, .slice an nn kn]) zB ∧ Below u.heap.size u wx

theorem new_next (W : World) (o1 o2 : Obj) : ((W.alloc o1).alloc o2).heap[W.heap.size + 1]? = some o2 := by
  have h := heap_alloc_new (W.alloc o1) o2
  rw [World.size_alloc] at h
  exact h

theorem two_aa {u tn : World} {zA zB : Int} {bm : Bool} {am : Option Addr} {nm km : Nat} {bn : Bool} {an : Option Addr} {nn kn : Nat} (ym : Zn tn (.agg #[.bool bm, .slice am nm km]) zA) (yn : Zn tn (.agg #[.bool bn, .slice an nn kn]) zB) (gn : Below u.heap.size u tn) :
    TwoBox u zA zB (.pointer (some ⟨tn.heap.size, 0, none⟩)) (.pointer (some ⟨tn.heap.size + 1, 0, none⟩)) ((tn.alloc (.cells #[.bool bm, .slice am nm km] 32)).alloc (.cells #[.bool bn, .slice an nn kn] 32)) :=
  ⟨_, _, bm, am, nm, km, bn, an, nn, kn, rfl, rfl, block_keep (heap_alloc_new _ _) _, new_next _ _ _, (ym.below (below_one6 _ _)).below (below_one6 _ _), (yn.below (below_one6 _ _)).below (below_one6 _ _), bl_alloc (bl_alloc gn _) _⟩

theorem two_aa2 {u tn : World} {zA zB : Int} {bm : Bool} {am : Option Addr} {nm km : Nat} {bn : Bool} {an : Option Addr} {nn kn : Nat} (ym : Zn tn (.agg #[.bool bm, .slice am nm km]) zA) (yn : Zn tn (.agg #[.bool bn, .slice an nn kn]) zB) (gn : Below u.heap.size u tn) :
    TwoBox u zA zB (.pointer (some ⟨tn.heap.size + 1, 0, none⟩)) (.pointer (some ⟨tn.heap.size, 0, none⟩)) ((tn.alloc (.cells #[.bool bn, .slice an nn kn] 32)).alloc (.cells #[.bool bm, .slice am nm km] 32)) :=
  ⟨_, _, bm, am, nm, km, bn, an, nn, kn, rfl, rfl, new_next _ _ _, block_keep (heap_alloc_new _ _) _, (ym.below (below_one6 _ _)).below (below_one6 _ _), (yn.below (below_one6 _ _)).below (below_one6 _ _), bl_alloc (bl_alloc gn _) _⟩

theorem two_sa {u tn : World} {zA zB : Int} {g : Nat} {bm : Bool} {am : Option Addr} {nm km : Nat} {bn : Bool} {an : Option Addr} {nn kn : Nat} (hq : tn.heap[g]? = some (.cells #[.bool false, .slice none 0 0] 32)) (ym : Zn tn (.agg #[.bool bm, .slice am nm km]) zA) (yn : Zn tn (.agg #[.bool bn, .slice an nn kn]) zB) (gn : Below u.heap.size u tn) (hg : u.heap.size ≤ g) :
    TwoBox u zA zB (.pointer (some ⟨g, 0, none⟩)) (.pointer (some ⟨tn.heap.size, 0, none⟩)) (((tn.setCell ⟨g, 0, none⟩ (.bool bm)).setCell ⟨g, 1, none⟩ (.slice am nm km)).alloc (.cells #[.bool bn, .slice an nn kn] 32)) := by
  have hs : ((tn.setCell ⟨g, 0, none⟩ (.bool bm)).setCell ⟨g, 1, none⟩ (.slice am nm km)).heap.size = tn.heap.size := by simp
  refine ⟨_, _, bm, am, nm, km, bn, an, nn, kn, rfl, rfl, block_keep (duo_all hq) _, ?_, (ym.duo hq).below (below_one6 _ _), (yn.duo hq).below (below_one6 _ _), bl_alloc (below_duo gn hg) _⟩
  rw [← hs]
  exact heap_alloc_new _ _

theorem two_sa2 {u tn : World} {zA zB : Int} {g : Nat} {bm : Bool} {am : Option Addr} {nm km : Nat} {bn : Bool} {an : Option Addr} {nn kn : Nat} (hq : tn.heap[g]? = some (.cells #[.bool false, .slice none 0 0] 32)) (ym : Zn tn (.agg #[.bool bm, .slice am nm km]) zA) (yn : Zn tn (.agg #[.bool bn, .slice an nn kn]) zB) (gn : Below u.heap.size u tn) (hg : u.heap.size ≤ g) :
    TwoBox u zA zB (.pointer (some ⟨tn.heap.size, 0, none⟩)) (.pointer (some ⟨g, 0, none⟩)) (((tn.setCell ⟨g, 0, none⟩ (.bool bn)).setCell ⟨g, 1, none⟩ (.slice an nn kn)).alloc (.cells #[.bool bm, .slice am nm km] 32)) := by
  have hs : ((tn.setCell ⟨g, 0, none⟩ (.bool bn)).setCell ⟨g, 1, none⟩ (.slice an nn kn)).heap.size = tn.heap.size := by simp
  refine ⟨_, _, bm, am, nm, km, bn, an, nn, kn, rfl, rfl, ?_, block_keep (duo_all hq) _, (ym.duo hq).below (below_one6 _ _), (yn.duo hq).below (below_one6 _ _), bl_alloc (below_duo gn hg) _⟩
  rw [← hs]
  exact heap_alloc_new _ _

theorem two_ss {u tn : World} {zA zB : Int} {g h : Nat} {bm : Bool} {am : Option Addr} {nm km : Nat} {bn : Bool} {an : Option Addr} {nn kn : Nat} (hq : tn.heap[g]? = some (.cells #[.bool false, .slice none 0 0] 32)) (hr : tn.heap[h]? = some (.cells #[.bool false, .slice none 0 0] 32)) (ym : Zn tn (.agg #[.bool bm, .slice am nm km]) zA) (yn : Zn tn (.agg #[.bool bn, .slice an nn kn]) zB) (gn : Below u.heap.size u tn) (hg : u.heap.size ≤ g) (hh : u.heap.size ≤ h) (hne : g ≠ h) :
    TwoBox u zA zB (.pointer (some ⟨g, 0, none⟩)) (.pointer (some ⟨h, 0, none⟩)) ((((tn.setCell ⟨g, 0, none⟩ (.bool bm)).setCell ⟨g, 1, none⟩ (.slice am nm km)).setCell ⟨h, 0, none⟩ (.bool bn)).setCell ⟨h, 1, none⟩ (.slice an nn kn)) := by
  have h4 := duo_other (u0 := .bool bm) (u1 := .slice am nm km) hr (Ne.symm hne)
  exact ⟨_, _, bm, am, nm, km, bn, an, nn, kn, rfl, rfl, duo_other (duo_all hq) hne, duo_all h4, (ym.duo hq).duo h4, (yn.duo hq).duo h4, below_duo (below_duo gn hg) hh⟩

set_option maxRecDepth 20000 in
set_option maxHeartbeats 8000000 in
theorem wholeSums_walk (b0 : Bool) (v0 : Value) (z0 : List Nat) (b1 : Bool) (v1 : Value) (z1 : List Nat) (w : World) (hT : Tab w) (A0 : Arg w v0 z0) (s0 : z0.length ≤ 1048576) (A1 : Arg w v1 z1) (s1 : z1.length ≤ 1048576) :
    Calls Tryz.prog 4 #[.agg #[.bool b0, v0], .agg #[.bool b1, v1]] w fun e w' => e = .returned (.bool true) ∧ Below w.heap.size w w' := by
  obtain ⟨a0, n0, rfl, _, _, _⟩ := A0.form
  obtain ⟨a1, n1, rfl, _, _, _⟩ := A1.form
  obtain ⟨w0, hw0, hb0, h0, h1⟩ := enter2 w (.cells #[.bool b0, .slice a0 z0.length n0] 24) (.cells #[.bool b1, .slice a1 z1.length n1] 24)
  have HA := hide h0
  have HBb := hide h1
  have HA0 := hide (A0.below hb0)
  have HA1 := hide (A1.below hb0)
  have HT := hide (hT.below hb0)
  have HW := hide hb0
  have hbl0 := blen_val_le z0 A0.limbs
  have hbl1 := blen_val_le z1 A1.limbs
  clear A0 A1 hT hb0 h0 h1
  obtain ⟨ca0, cb0⟩ := duo HA.out
  go_enter Tryz.func4, Tryz.ntmps4
  have C1 := wlent_any b0 _ z0 w0 HA0.out (by omega)
  go_wp2_with fail
  refine C1.mono ?_
  rintro e w1 ⟨⟨aw, mw, nw, ax, mx, nx, rfl, hL, hP⟩, hb⟩
  clear ca0 cb0
  replace HA := hide (block_upW hb HA.out)
  replace HBb := hide (block_upW hb HBb.out)
  replace HA0 := hide (HA0.out.below hb)
  replace HA1 := hide (HA1.out.below hb)
  replace HT := hide (HT.out.below hb)
  replace HW := hid_below HW hb
  have HLa := hide hL
  have HPx := hide hP
  clear hb hL hP C1 hw0
  obtain ⟨u1, hu1, hbu1, hxu1⟩ := enter1 w1 (.cells #[.bool b0, .slice ax mx nx] 27)
  replace HA := hide (block_upW hbu1 HA.out)
  replace HBb := hide (block_upW hbu1 HBb.out)
  replace HA0 := hide (HA0.out.below hbu1)
  replace HA1 := hide (HA1.out.below hbu1)
  replace HT := hide (HT.out.below hbu1)
  replace HLa := hide (HLa.out.below hbu1)
  replace HPx := hide (HPx.out.below hbu1)
  replace HW := hid_below HW hbu1
  have HX := hide hxu1
  clear hbu1 hxu1
  obtain ⟨ca1, cb1⟩ := duo HBb.out
  have C2 := wlent_any b1 _ z1 u1 HA1.out (by omega)
  go_wp2_with fail
  refine C2.mono ?_
  rintro e w2 ⟨⟨bw, mv, nv, ay, my, ny, rfl, hL, hP⟩, hb⟩
  clear ca1 cb1
  replace HA := hide (block_upW hb HA.out)
  replace HBb := hide (block_upW hb HBb.out)
  replace HA0 := hide (HA0.out.below hb)
  replace HA1 := hide (HA1.out.below hb)
  replace HT := hide (HT.out.below hb)
  replace HLa := hide (HLa.out.below hb)
  replace HPx := hide (HPx.out.below hb)
  replace HX := hide (block_upW hb HX.out)
  replace HW := hid_below HW hb
  have HLb := hide hL
  have HPy := hide hP
  clear hb hL hP C2
  obtain ⟨u2, hu2, hbu2, hxu2⟩ := enter1 w2 (.cells #[.bool b1, .slice ay my ny] 27)
  replace HA := hide (block_upW hbu2 HA.out)
  replace HBb := hide (block_upW hbu2 HBb.out)
  replace HA0 := hide (HA0.out.below hbu2)
  replace HA1 := hide (HA1.out.below hbu2)
  replace HT := hide (HT.out.below hbu2)
  replace HLa := hide (HLa.out.below hbu2)
  replace HPx := hide (HPx.out.below hbu2)
  replace HX := hide (block_upW hbu2 HX.out)
  replace HLb := hide (HLb.out.below hbu2)
  replace HPy := hide (HPy.out.below hbu2)
  replace HW := hid_below HW hbu2
  have HY := hide hxu2
  clear hbu2 hxu2
  clear hu1
  have HBB : Hid (Below u2.heap.size u2 u2) := hide (Below.refl _ _)
  have HLaB := HLa
  have HLbB := HLb
  have HA0B := HA0
  have HA1B := HA1
  have HWB := HW
  have HTB := HT
  generalize hzA : zz b0 (val z0) = zA at *
  generalize hzB : zz b1 (val z1) = zB at *
  obtain ⟨ca2, cb2⟩ := duo HX.out
  obtain ⟨ca3, cb3⟩ := duo HY.out
  have C3 := wadd_any b0 _ z0 b1 _ z1 u2 HPx.out HPy.out (by omega) (by omega)
  go_wp2_with fail
  refine C3.mono ?_
  rintro e w3 ⟨⟨bp, ap, lp, kp, cp, rfl, hzr⟩, hb⟩
  clear ca2 cb2 ca3 cb3
  rw [hzA, hzB] at hzr
  obtain ⟨rp, hAp, hcp⟩ := hzr
  have hlp := ZR.few hcp
  have Ch : Chain w3 u2.heap.size [.slice ap lp kp] [rp] := Chain.one hAp hb.size
  replace HA := hide (block_upW hb HA.out)
  replace HBb := hide (block_upW hb HBb.out)
  replace HA0 := hide (HA0.out.below hb)
  replace HA1 := hide (HA1.out.below hb)
  replace HT := hide (HT.out.below hb)
  replace HLa := hide (HLa.out.below hb)
  replace HPx := hide (HPx.out.below hb)
  replace HX := hide (block_upW hb HX.out)
  replace HLb := hide (HLb.out.below hb)
  replace HPy := hide (HPy.out.below hb)
  replace HY := hide (block_upW hb HY.out)
  replace HW := hid_below HW hb
  replace HBB := hid_below HBB hb
  have HP := hide (show ZR w3 u2.heap.size bp (.slice ap lp kp) cp (zA + zB) from ⟨rp, hAp, hcp⟩)
  clear hb hAp hcp C3 hu2
  obtain ⟨u3, hu3, hbu3, hxu3⟩ := enter1 w3 (.cells #[.bool bp, .slice ap lp kp] 27)
  replace HA := hide (block_upW hbu3 HA.out)
  replace HBb := hide (block_upW hbu3 HBb.out)
  replace HA0 := hide (HA0.out.below hbu3)
  replace HA1 := hide (HA1.out.below hbu3)
  replace HT := hide (HT.out.below hbu3)
  replace HLa := hide (HLa.out.below hbu3)
  replace HPx := hide (HPx.out.below hbu3)
  replace HX := hide (block_upW hbu3 HX.out)
  replace HLb := hide (HLb.out.below hbu3)
  replace HPy := hide (HPy.out.below hbu3)
  replace HY := hide (block_upW hbu3 HY.out)
  replace HP := hide (HP.out.below hbu3)
  replace HW := hid_below HW hbu3
  replace HBB := hid_below HBB hbu3
  have HBp := hide hxu3
  clear hbu3 hxu3
  replace Ch := Ch.below (show Below w3.heap.size w3 u3 by rw [← hu3]; exact below_one6 _ _)
  obtain ⟨ca4, cb4⟩ := duo HX.out
  obtain ⟨ca5, cb5⟩ := duo HY.out
  have C4 := wsub_any b0 _ z0 b1 _ z1 u3 HPx.out HPy.out (by omega) (by omega)
  go_wp2_with fail
  refine C4.mono ?_
  rintro e w4 ⟨⟨bq, aq, lq, kq, cq, rfl, hzr⟩, hb⟩
  clear ca4 cb4 ca5 cb5
  rw [hzA, hzB] at hzr
  obtain ⟨rq, hAq, hcq⟩ := hzr
  have hlq := ZR.few hcq
  replace Ch := Ch.snoc hb hAq HBB.out.size
  replace HA := hide (block_upW hb HA.out)
  replace HBb := hide (block_upW hb HBb.out)
  replace HA0 := hide (HA0.out.below hb)
  replace HA1 := hide (HA1.out.below hb)
  replace HT := hide (HT.out.below hb)
  replace HLa := hide (HLa.out.below hb)
  replace HPx := hide (HPx.out.below hb)
  replace HX := hide (block_upW hb HX.out)
  replace HLb := hide (HLb.out.below hb)
  replace HPy := hide (HPy.out.below hb)
  replace HY := hide (block_upW hb HY.out)
  replace HP := hide (HP.out.below hb)
  replace HBp := hide (block_upW hb HBp.out)
  replace HW := hid_below HW hb
  replace HBB := hid_below HBB hb
  have HQ := hide (show ZR w4 u3.heap.size bq (.slice aq lq kq) cq (zA - zB) from ⟨rq, hAq, hcq⟩)
  clear hb hAq hcq C4 hu3
  obtain ⟨u4, hu4, hbu4, hxu4⟩ := enter1 w4 (.cells #[.bool bq, .slice aq lq kq] 27)
  replace HA := hide (block_upW hbu4 HA.out)
  replace HBb := hide (block_upW hbu4 HBb.out)
  replace HA0 := hide (HA0.out.below hbu4)
  replace HA1 := hide (HA1.out.below hbu4)
  replace HT := hide (HT.out.below hbu4)
  replace HLa := hide (HLa.out.below hbu4)
  replace HPx := hide (HPx.out.below hbu4)
  replace HX := hide (block_upW hbu4 HX.out)
  replace HLb := hide (HLb.out.below hbu4)
  replace HPy := hide (HPy.out.below hbu4)
  replace HY := hide (block_upW hbu4 HY.out)
  replace HP := hide (HP.out.below hbu4)
  replace HBp := hide (block_upW hbu4 HBp.out)
  replace HQ := hide (HQ.out.below hbu4)
  replace HW := hid_below HW hbu4
  replace HBB := hid_below HBB hbu4
  have HBq := hide hxu4
  clear hbu4 hxu4
  replace Ch := Ch.below (show Below w4.heap.size w4 u4 by rw [← hu4]; exact below_one6 _ _)
  obtain ⟨ca6, cb6⟩ := duo HX.out
  obtain ⟨ca7, cb7⟩ := duo HY.out
  have C5 := wmul_any b0 _ z0 b1 _ z1 u4 HPx.out HPy.out HT.out (by omega) (by omega)
  go_wp2_with fail
  refine C5.mono ?_
  rintro e w5 ⟨⟨br, ar, lr, kr, cr, rfl, hzr⟩, hb⟩
  clear ca6 cb6 ca7 cb7
  rw [hzA, hzB] at hzr
  obtain ⟨rr, hAr, hcr⟩ := hzr
  have hlr := ZR.few hcr
  replace Ch := Ch.snoc hb hAr HBB.out.size
  replace HA := hide (block_upW hb HA.out)
  replace HBb := hide (block_upW hb HBb.out)
  replace HA0 := hide (HA0.out.below hb)
  replace HA1 := hide (HA1.out.below hb)
  replace HT := hide (HT.out.below hb)
  replace HLa := hide (HLa.out.below hb)
  replace HPx := hide (HPx.out.below hb)
  replace HX := hide (block_upW hb HX.out)
  replace HLb := hide (HLb.out.below hb)
  replace HPy := hide (HPy.out.below hb)
  replace HY := hide (block_upW hb HY.out)
  replace HP := hide (HP.out.below hb)
  replace HBp := hide (block_upW hb HBp.out)
  replace HQ := hide (HQ.out.below hb)
  replace HBq := hide (block_upW hb HBq.out)
  replace HW := hid_below HW hb
  replace HBB := hid_below HBB hb
  have HR := hide (show ZR w5 u4.heap.size br (.slice ar lr kr) cr (zA * zB) from ⟨rr, hAr, hcr⟩)
  clear hb hAr hcr C5 hu4
  obtain ⟨u5, hu5, hbu5, hxu5⟩ := enter1 w5 (.cells #[.bool br, .slice ar lr kr] 27)
  replace HA := hide (block_upW hbu5 HA.out)
  replace HBb := hide (block_upW hbu5 HBb.out)
  replace HA0 := hide (HA0.out.below hbu5)
  replace HA1 := hide (HA1.out.below hbu5)
  replace HT := hide (HT.out.below hbu5)
  replace HLa := hide (HLa.out.below hbu5)
  replace HPx := hide (HPx.out.below hbu5)
  replace HX := hide (block_upW hbu5 HX.out)
  replace HLb := hide (HLb.out.below hbu5)
  replace HPy := hide (HPy.out.below hbu5)
  replace HY := hide (block_upW hbu5 HY.out)
  replace HP := hide (HP.out.below hbu5)
  replace HBp := hide (block_upW hbu5 HBp.out)
  replace HQ := hide (HQ.out.below hbu5)
  replace HBq := hide (block_upW hbu5 HBq.out)
  replace HR := hide (HR.out.below hbu5)
  replace HW := hid_below HW hbu5
  replace HBB := hid_below HBB hbu5
  have HBr := hide hxu5
  clear hbu5 hxu5
  replace Ch := Ch.below (show Below w5.heap.size w5 u5 by rw [← hu5]; exact below_one6 _ _)
  have OF0 := hide (fun (W : World) (hg : Below u5.heap.size u5 W) => show Calls Tryz.prog 9 #[.agg #[.bool b0, .slice a0 z0.length n0]] W (ZnDone W zA) by
      have h := wlawOf_any b0 _ z0 W (HA0.out.below hg) (by omega)
      rw [hzA] at h
      exact h)
  have OF1 := hide (fun (W : World) (hg : Below u5.heap.size u5 W) => show Calls Tryz.prog 9 #[.agg #[.bool b1, .slice a1 z1.length n1]] W (ZnDone W zB) by
      have h := wlawOf_any b1 _ z1 W (HA1.out.below hg) (by omega)
      rw [hzB] at h
      exact h)
  obtain ⟨da0, da1⟩ := duo HA.out
  obtain ⟨db0, db1⟩ := duo HBb.out
  go_upto_region 6 with fail
  go_cut [15, 16] from 45 to 49 (fun s t wx => TwoBox u5 zA zB s t wx)
  case first =>
    have hlt5 : w.heap.size + 1 < u5.heap.size := lt_of_block HBb.out
    go_region_held3 (fun w' => w'.cell? ⟨w.heap.size, 0, none⟩ = some (.bool b0) ∧ w'.cell? ⟨w.heap.size, 1, none⟩ = some (.slice a0 z0.length n0) ∧ w'.cell? ⟨w.heap.size + 1, 0, none⟩ = some (.bool b1) ∧ w'.cell? ⟨w.heap.size + 1, 1, none⟩ = some (.slice a1 z1.length n1)) (first | (refine ⟨?_, ?_, ?_, ?_⟩ <;> (repeat' (first | with_reducible assumption | with_reducible apply cell_keep | with_reducible apply cell_drew6 | with_reducible apply cell_set_keep | omega))) | go_keep) (first
      | (go_at_call_of 9 a0; refine (OF0.out _ (by repeat (first | with_reducible exact Below.refl _ _ | with_reducible apply bl_alloc | with_reducible apply bl_drew))).mono ?_; rintro e' tm ⟨⟨bm, am, nm, km, rfl, ym⟩, hbm⟩; have gm : Below u5.heap.size u5 tm := bl_trans (by repeat (first | with_reducible exact Below.refl _ _ | with_reducible apply bl_alloc | with_reducible apply bl_drew)) hbm; have xa0 := cell_up6 hbm (by repeat (first | with_reducible exact da0 | with_reducible apply cell_keep | with_reducible apply cell_drew6)); have xa1 := cell_up6 hbm (by repeat (first | with_reducible exact da1 | with_reducible apply cell_keep | with_reducible apply cell_drew6)); have xb0 := cell_up6 hbm (by repeat (first | with_reducible exact db0 | with_reducible apply cell_keep | with_reducible apply cell_drew6)); have xb1 := cell_up6 hbm (by repeat (first | with_reducible exact db1 | with_reducible apply cell_keep | with_reducible apply cell_drew6)); have hltm := lt_of_cell xb0; (first | (with_reducible have hpB := made2d hbm; with_reducible have hpA := made21d hbm) | (with_reducible have hpA := made1d hbm) | skip))
      | (go_at_call_of 9 a1; refine (OF1.out _ (by repeat (first | with_reducible exact gm | with_reducible apply bl_alloc))).mono ?_; rintro e' tn ⟨⟨bn, an, nn, kn, rfl, yn⟩, hbn⟩; have ya0 := cell_up6 hbn (by repeat (first | with_reducible exact xa0 | with_reducible apply cell_keep)); have ya1 := cell_up6 hbn (by repeat (first | with_reducible exact xa1 | with_reducible apply cell_keep)); have yb0 := cell_up6 hbn (by repeat (first | with_reducible exact xb0 | with_reducible apply cell_keep)); have yb1 := cell_up6 hbn (by repeat (first | with_reducible exact xb1 | with_reducible apply cell_keep)); have hltn := lt_of_cell yb0; have gtm : Below tm.heap.size tm tn := bl_trans (by repeat (first | with_reducible exact Below.refl _ _ | with_reducible apply bl_alloc)) hbn; have ym2 := ym.below gtm; have gn := bl_trans gm gtm; (first | (with_reducible have hqD := made2 hbn; with_reducible have hqC := made21 hbn; obtain ⟨zC0, zC1⟩ := duo hqC; have zCf := duof hqC; have zCc := fun (o : Obj) => cell_keep zC0 o; have zCd := fun (o : Obj) => cell_keep zC1 o; have zCg := fun (o : Obj) => frozen_alloc hqC o; have hlC := lt_of_block hqC; obtain ⟨zD0, zD1⟩ := duo hqD; have zDf := duof hqD; have zDc := fun (o : Obj) => cell_keep zD0 o; have zDd := fun (o : Obj) => cell_keep zD1 o; have zDg := fun (o : Obj) => frozen_alloc hqD o; have hlD := lt_of_block hqD; have sDC := fun (W : World) (k : Nat) (u : Value) (k' : Nat) => cell_otherW (w := W) (g := tm.heap.size + 1) (k := k) (g' := tm.heap.size) (k' := k') (u := u) (Nat.ne_of_gt (Nat.lt_succ_self _)); have sCD := fun (W : World) (k : Nat) (u : Value) (k' : Nat) => cell_otherW (w := W) (g := tm.heap.size) (k := k) (g' := tm.heap.size + 1) (k' := k') (u := u) (Nat.ne_of_lt (Nat.lt_succ_self _))) | (with_reducible have hqC := made1 hbn; obtain ⟨zC0, zC1⟩ := duo hqC; have zCf := duof hqC; have zCc := fun (o : Obj) => cell_keep zC0 o; have zCd := fun (o : Obj) => cell_keep zC1 o; have zCg := fun (o : Obj) => frozen_alloc hqC o; have hlC := lt_of_block hqC; have sCn := fun (W : World) (k : Nat) (u : Value) (k' : Nat) => cell_otherW (w := W) (g := tm.heap.size) (k := k) (g' := tn.heap.size) (k' := k') (u := u) (Nat.ne_of_lt hlC)) | skip); (first | (with_reducible have hqA := up0 hbn hpA; obtain ⟨zA0, zA1⟩ := duo hqA; have zAf := duof hqA; have zAc := fun (o : Obj) => cell_keep zA0 o; have zAd := fun (o : Obj) => cell_keep zA1 o; have zAg := fun (o : Obj) => frozen_alloc hqA o; have hlA := lt_of_block hqA; have sAn := fun (W : World) (k : Nat) (u : Value) (k' : Nat) => cell_otherW (w := W) (g := u5.heap.size) (k := k) (g' := tn.heap.size) (k' := k') (u := u) (Nat.ne_of_lt hlA); have sAC := fun (W : World) (k : Nat) (u : Value) (k' : Nat) => cell_otherW (w := W) (g := u5.heap.size) (k := k) (g' := tm.heap.size) (k' := k') (u := u) (Nat.ne_of_lt (lt_of_block hpA)); have sBA := fun (W : World) (k : Nat) (u : Value) (k' : Nat) => cell_otherW (w := W) (g := u5.heap.size + 1) (k := k) (g' := u5.heap.size) (k' := k') (u := u) (Nat.ne_of_gt (Nat.lt_succ_self _)); have sCA := fun (W : World) (k : Nat) (u : Value) (k' : Nat) => cell_otherW (w := W) (g := tm.heap.size) (k := k) (g' := u5.heap.size) (k' := k') (u := u) (Nat.ne_of_gt (lt_of_block hpA)); have sAB := fun (W : World) (k : Nat) (u : Value) (k' : Nat) => cell_otherW (w := W) (g := u5.heap.size) (k := k) (g' := u5.heap.size + 1) (k' := k') (u := u) (Nat.ne_of_lt (Nat.lt_succ_self _))) | (with_reducible have hqA := up1 hbn hpA; obtain ⟨zA0, zA1⟩ := duo hqA; have zAf := duof hqA; have zAc := fun (o : Obj) => cell_keep zA0 o; have zAd := fun (o : Obj) => cell_keep zA1 o; have zAg := fun (o : Obj) => frozen_alloc hqA o; have hlA := lt_of_block hqA; have sAn := fun (W : World) (k : Nat) (u : Value) (k' : Nat) => cell_otherW (w := W) (g := u5.heap.size) (k := k) (g' := tn.heap.size) (k' := k') (u := u) (Nat.ne_of_lt hlA); have sAC := fun (W : World) (k : Nat) (u : Value) (k' : Nat) => cell_otherW (w := W) (g := u5.heap.size) (k := k) (g' := tm.heap.size) (k' := k') (u := u) (Nat.ne_of_lt (lt_of_block hpA)); have sBA := fun (W : World) (k : Nat) (u : Value) (k' : Nat) => cell_otherW (w := W) (g := u5.heap.size + 1) (k := k) (g' := u5.heap.size) (k' := k') (u := u) (Nat.ne_of_gt (Nat.lt_succ_self _)); have sCA := fun (W : World) (k : Nat) (u : Value) (k' : Nat) => cell_otherW (w := W) (g := tm.heap.size) (k := k) (g' := u5.heap.size) (k' := k') (u := u) (Nat.ne_of_gt (lt_of_block hpA)); have sAB := fun (W : World) (k : Nat) (u : Value) (k' : Nat) => cell_otherW (w := W) (g := u5.heap.size) (k := k) (g' := u5.heap.size + 1) (k' := k') (u := u) (Nat.ne_of_lt (Nat.lt_succ_self _))) | skip); (first | (with_reducible have hqB := up0 hbn hpB; obtain ⟨zB0, zB1⟩ := duo hqB; have zBf := duof hqB; have zBc := fun (o : Obj) => cell_keep zB0 o; have zBd := fun (o : Obj) => cell_keep zB1 o; have zBg := fun (o : Obj) => frozen_alloc hqB o; have hlB := lt_of_block hqB) | skip)))
    all_goals (go_wp2_with fail; go_meet; first
      | with_reducible exact two_aa ym2 yn gn
      | with_reducible exact two_aa2 ym2 yn gn
      | with_reducible exact two_sa hqC ym2 yn gn gm.size
      | with_reducible exact two_sa hqA ym2 yn gn (Nat.le_refl _)
      | with_reducible exact two_sa2 hqC ym2 yn gn gm.size
      | with_reducible exact two_sa2 hqA ym2 yn gn (Nat.le_refl _)
      | with_reducible exact two_ss hqC hqD ym2 yn gn gm.size (Nat.le_succ_of_le gm.size) (Nat.ne_of_lt (Nat.lt_succ_self _))
      | with_reducible exact two_ss hqD hqC ym2 yn gn (Nat.le_succ_of_le gm.size) gm.size (Nat.ne_of_gt (Nat.lt_succ_self _))
      | with_reducible exact two_ss hqA hqC ym2 yn gn (Nat.le_refl _) gm.size (Nat.ne_of_lt (lt_of_block hpA))
      | with_reducible exact two_ss hqC hqA ym2 yn gn gm.size (Nat.le_refl _) (Nat.ne_of_gt (lt_of_block hpA))
      | with_reducible exact two_ss hqA hqB ym2 yn gn (Nat.le_refl _) (Nat.le_succ _) (Nat.ne_of_lt (Nat.lt_succ_self _))
      | with_reducible exact two_ss hqB hqA ym2 yn gn (Nat.le_succ _) (Nat.le_refl _) (Nat.ne_of_gt (Nat.lt_succ_self _)))
  case rest =>
    obtain ⟨gm1, gn1, bm, am, nm, km, bn, an, nn, kn, rfl, rfl, hG, hH, ym, yn, hbx⟩ := hcut
    have HM := hide hG
    have HN := hide hH
    have HZm := hide ym
    have HZn := hide yn
    replace Ch := Ch.below hbx
    replace HA := hide (block_upW hbx HA.out)
    replace HBb := hide (block_upW hbx HBb.out)
    replace HA0 := hide (HA0.out.below hbx)
    replace HA1 := hide (HA1.out.below hbx)
    replace HT := hide (HT.out.below hbx)
    replace HLa := hide (HLa.out.below hbx)
    replace HPx := hide (HPx.out.below hbx)
    replace HX := hide (block_upW hbx HX.out)
    replace HLb := hide (HLb.out.below hbx)
    replace HPy := hide (HPy.out.below hbx)
    replace HY := hide (block_upW hbx HY.out)
    replace HP := hide (HP.out.below hbx)
    replace HBp := hide (block_upW hbx HBp.out)
    replace HQ := hide (HQ.out.below hbx)
    replace HBq := hide (block_upW hbx HBq.out)
    replace HR := hide (HR.out.below hbx)
    replace HBr := hide (block_upW hbx HBr.out)
    replace HW := hid_below HW hbx
    replace HBB := hid_below HBB hbx
    clear hG hH ym yn hbx OF0 OF1 da0 da1 db0 db1 hu5
    have hbd : Below wc.heap.size wc wc.drew := (Below.refl _ _).drew
    replace Ch := Ch.below hbd
    replace HA := hide (block_upW hbd HA.out)
    replace HBb := hide (block_upW hbd HBb.out)
    replace HA0 := hide (HA0.out.below hbd)
    replace HA1 := hide (HA1.out.below hbd)
    replace HT := hide (HT.out.below hbd)
    replace HLa := hide (HLa.out.below hbd)
    replace HPx := hide (HPx.out.below hbd)
    replace HX := hide (block_upW hbd HX.out)
    replace HLb := hide (HLb.out.below hbd)
    replace HPy := hide (HPy.out.below hbd)
    replace HY := hide (block_upW hbd HY.out)
    replace HP := hide (HP.out.below hbd)
    replace HBp := hide (block_upW hbd HBp.out)
    replace HQ := hide (HQ.out.below hbd)
    replace HBq := hide (block_upW hbd HBq.out)
    replace HR := hide (HR.out.below hbd)
    replace HBr := hide (block_upW hbd HBr.out)
    replace HM := hide (block_upW hbd HM.out)
    replace HN := hide (block_upW hbd HN.out)
    replace HZm := hide (HZm.out.below hbd)
    replace HZn := hide (HZn.out.below hbd)
    replace HW := hid_below HW hbd
    replace HBB := hid_below HBB hbd
    obtain ⟨td, htd⟩ : ∃ td, wc.drew = td := ⟨_, rfl⟩
    rw [htd] at Ch HW HBB HA HBb HA0 HA1 HT HLa HPx HX HLb HPy HY HP HBp HQ HBq HR HBr HM HN HZm HZn
    clear hbd
    obtain ⟨xM00, xM01⟩ := duo HM.out
    obtain ⟨xN00, xN01⟩ := duo HN.out
    obtain ⟨xP00, xP01⟩ := duo HBp.out
    obtain ⟨xQ00, xQ01⟩ := duo HBq.out
    obtain ⟨xR00, xR01⟩ := duo HBr.out
    obtain ⟨xB00, xB01⟩ := duo HBb.out
    obtain ⟨xA00, xA01⟩ := duo HA.out
    have hbA : blen zA.natAbs ≤ 67108864 := by rw [← hzA, zz_abs]; omega
    have hbB : blen zB.natAbs ≤ 67108864 := by rw [← hzB, zz_abs]; omega
    have K1 := rzadd_any (.agg #[.bool bm, .slice am nm km]) (.agg #[.bool bn, .slice an nn kn]) zA zB td HZm.out HZn.out (by omega) (by omega)
    have K3 := hide (fun (W : World) (hg : Below td.heap.size td W) => rzsub_any (.agg #[.bool bm, .slice am nm km]) (.agg #[.bool bn, .slice an nn kn]) zA zB W (HZm.out.below hg) (HZn.out.below hg) (by omega) (by omega))
    have K5 := hide (fun (W : World) (hg : Below td.heap.size td W) => rzmul_any (.agg #[.bool bm, .slice am nm km]) (.agg #[.bool bn, .slice an nn kn]) zA zB W (HZm.out.below hg) (HZn.out.below hg) (by omega))
    go_wp2
    go_region_held3 (fun w' => w'.cell? ⟨gm1, 0, none⟩ = some (.bool bm) ∧ w'.cell? ⟨gm1, 1, none⟩ = some (.slice am nm km) ∧ w'.cell? ⟨gn1, 0, none⟩ = some (.bool bn) ∧ w'.cell? ⟨gn1, 1, none⟩ = some (.slice an nn kn) ∧ w'.cell? ⟨w3.heap.size, 0, none⟩ = some (.bool bp) ∧ w'.cell? ⟨w3.heap.size, 1, none⟩ = some (.slice ap lp kp) ∧ w'.cell? ⟨w4.heap.size, 0, none⟩ = some (.bool bq) ∧ w'.cell? ⟨w4.heap.size, 1, none⟩ = some (.slice aq lq kq) ∧ w'.cell? ⟨w5.heap.size, 0, none⟩ = some (.bool br) ∧ w'.cell? ⟨w5.heap.size, 1, none⟩ = some (.slice ar lr kr) ∧ w'.cell? ⟨w.heap.size + 1, 0, none⟩ = some (.bool b1) ∧ w'.cell? ⟨w.heap.size + 1, 1, none⟩ = some (.slice a1 z1.length n1) ∧ w'.cell? ⟨w.heap.size, 0, none⟩ = some (.bool b0) ∧ w'.cell? ⟨w.heap.size, 1, none⟩ = some (.slice a0 z0.length n0)) (go_keep) (first
      | (go_at_call 34; refine (K1).mono ?_; rintro e' t1 ⟨⟨b21, a21, n21, k21, rfl, y1⟩, hb1⟩; have g1 := hb1; have xM10 := cell_up6 hb1 xM00; have xM11 := cell_up6 hb1 xM01; have xN10 := cell_up6 hb1 xN00; have xN11 := cell_up6 hb1 xN01; have xP10 := cell_up6 hb1 xP00; have xP11 := cell_up6 hb1 xP01; have xQ10 := cell_up6 hb1 xQ00; have xQ11 := cell_up6 hb1 xQ01; have xR10 := cell_up6 hb1 xR00; have xR11 := cell_up6 hb1 xR01; have xB10 := cell_up6 hb1 xB00; have xB11 := cell_up6 hb1 xB01; have xA10 := cell_up6 hb1 xA00; have xA11 := cell_up6 hb1 xA01; clear xM00 xM01 xN00 xN01 xP00 xP01 xQ00 xQ01 xR00 xR01 xB00 xB01 xA00 xA01)
      | (go_at_call_of 21 ap; refine (walike_ok bp ap lp kp cp _ (zA + zB) _ t1 (HP.out.below g1) y1).mono ?_; rintro e' t2 ⟨rfl, hb2⟩; have g2 := g1.trans (hb2.mono g1.size); have xM20 := cell_up6 hb2 xM10; have xM21 := cell_up6 hb2 xM11; have xN20 := cell_up6 hb2 xN10; have xN21 := cell_up6 hb2 xN11; have xP20 := cell_up6 hb2 xP10; have xP21 := cell_up6 hb2 xP11; have xQ20 := cell_up6 hb2 xQ10; have xQ21 := cell_up6 hb2 xQ11; have xR20 := cell_up6 hb2 xR10; have xR21 := cell_up6 hb2 xR11; have xB20 := cell_up6 hb2 xB10; have xB21 := cell_up6 hb2 xB11; have xA20 := cell_up6 hb2 xA10; have xA21 := cell_up6 hb2 xA11; clear xM10 xM11 xN10 xN11 xP10 xP11 xQ10 xQ11 xR10 xR11 xB10 xB11 xA10 xA11)
      | (go_at_call 35; refine (K3.out t2 g2).mono ?_; rintro e' t3 ⟨⟨b23, a23, n23, k23, rfl, y3⟩, hb3⟩; have g3 := g2.trans (hb3.mono g2.size); have xM30 := cell_up6 hb3 xM20; have xM31 := cell_up6 hb3 xM21; have xN30 := cell_up6 hb3 xN20; have xN31 := cell_up6 hb3 xN21; have xP30 := cell_up6 hb3 xP20; have xP31 := cell_up6 hb3 xP21; have xQ30 := cell_up6 hb3 xQ20; have xQ31 := cell_up6 hb3 xQ21; have xR30 := cell_up6 hb3 xR20; have xR31 := cell_up6 hb3 xR21; have xB30 := cell_up6 hb3 xB20; have xB31 := cell_up6 hb3 xB21; have xA30 := cell_up6 hb3 xA20; have xA31 := cell_up6 hb3 xA21; clear xM20 xM21 xN20 xN21 xP20 xP21 xQ20 xQ21 xR20 xR21 xB20 xB21 xA20 xA21)
      | (go_at_call_of 21 aq; refine (walike_ok bq aq lq kq cq _ (zA - zB) _ t3 (HQ.out.below g3) y3).mono ?_; rintro e' t4 ⟨rfl, hb4⟩; have g4 := g3.trans (hb4.mono g3.size); have xM40 := cell_up6 hb4 xM30; have xM41 := cell_up6 hb4 xM31; have xN40 := cell_up6 hb4 xN30; have xN41 := cell_up6 hb4 xN31; have xP40 := cell_up6 hb4 xP30; have xP41 := cell_up6 hb4 xP31; have xQ40 := cell_up6 hb4 xQ30; have xQ41 := cell_up6 hb4 xQ31; have xR40 := cell_up6 hb4 xR30; have xR41 := cell_up6 hb4 xR31; have xB40 := cell_up6 hb4 xB30; have xB41 := cell_up6 hb4 xB31; have xA40 := cell_up6 hb4 xA30; have xA41 := cell_up6 hb4 xA31; clear xM30 xM31 xN30 xN31 xP30 xP31 xQ30 xQ31 xR30 xR31 xB30 xB31 xA30 xA31)
      | (go_at_call 36; refine (K5.out t4 g4).mono ?_; rintro e' t5 ⟨⟨b25, a25, n25, k25, rfl, y5⟩, hb5⟩; have g5 := g4.trans (hb5.mono g4.size); have xM50 := cell_up6 hb5 xM40; have xM51 := cell_up6 hb5 xM41; have xN50 := cell_up6 hb5 xN40; have xN51 := cell_up6 hb5 xN41; have xP50 := cell_up6 hb5 xP40; have xP51 := cell_up6 hb5 xP41; have xQ50 := cell_up6 hb5 xQ40; have xQ51 := cell_up6 hb5 xQ41; have xR50 := cell_up6 hb5 xR40; have xR51 := cell_up6 hb5 xR41; have xB50 := cell_up6 hb5 xB40; have xB51 := cell_up6 hb5 xB41; have xA50 := cell_up6 hb5 xA40; have xA51 := cell_up6 hb5 xA41; clear xM40 xM41 xN40 xN41 xP40 xP41 xQ40 xQ41 xR40 xR41 xB40 xB41 xA40 xA41)
      | (go_at_call_of 21 ar; refine (walike_ok br ar lr kr cr _ (zA * zB) _ t5 (HR.out.below g5) y5).mono ?_; rintro e' t6 ⟨rfl, hb6⟩; have g6 := g5.trans (hb6.mono g5.size); have xM60 := cell_up6 hb6 xM50; have xM61 := cell_up6 hb6 xM51; have xN60 := cell_up6 hb6 xN50; have xN61 := cell_up6 hb6 xN51; have xP60 := cell_up6 hb6 xP50; have xP61 := cell_up6 hb6 xP51; have xQ60 := cell_up6 hb6 xQ50; have xQ61 := cell_up6 hb6 xQ51; have xR60 := cell_up6 hb6 xR50; have xR61 := cell_up6 hb6 xR51; have xB60 := cell_up6 hb6 xB50; have xB61 := cell_up6 hb6 xB51; have xA60 := cell_up6 hb6 xA50; have xA61 := cell_up6 hb6 xA51; clear xM50 xM51 xN50 xN51 xP50 xP51 xQ50 xQ51 xR50 xR51 xB50 xB51 xA50 xA51)
      | (go_at_call 28; refine (own_aparts u2.heap.size [.slice ap lp kp, .slice aq lq kq, .slice ar lr kr] [rp, rq, rr] t6 ((Ch.below g6).aparts) (by simp) (by simp; omega) (Nat.le_trans HBB.out.size g6.size)).mono ?_; rintro e' t7 ⟨rfl, hk7⟩; obtain ⟨xM70, xM71⟩ := duo (hk7.box _ _ _ (by decide) (by decide) (block_upW g6 HM.out)); obtain ⟨xN70, xN71⟩ := duo (hk7.box _ _ _ (by decide) (by decide) (block_upW g6 HN.out)); obtain ⟨xP70, xP71⟩ := duo (hk7.box _ _ _ (by decide) (by decide) (block_upW g6 HBp.out)); obtain ⟨xQ70, xQ71⟩ := duo (hk7.box _ _ _ (by decide) (by decide) (block_upW g6 HBq.out)); obtain ⟨xR70, xR71⟩ := duo (hk7.box _ _ _ (by decide) (by decide) (block_upW g6 HBr.out)); obtain ⟨xB70, xB71⟩ := duo (hk7.box _ _ _ (by decide) (by decide) (block_upW g6 HBb.out)); obtain ⟨xA70, xA71⟩ := duo (hk7.box _ _ _ (by decide) (by decide) (block_upW g6 HA.out)); clear xM60 xM61 xN60 xN61 xP60 xP61 xQ60 xQ61 xR60 xR61 xB60 xB61 xA60 xA61)
      | (go_at_call_of 29 aw; refine (kept_ok _ _ z0 t7 (HLaB.out.below ((HBB.out.trans (g6.mono HBB.out.size)).trans hk7.below)) (HA0B.out.below ((HBB.out.trans (g6.mono HBB.out.size)).trans hk7.below)) (by omega)).mono ?_; rintro e' wn ⟨rfl, hw⟩; rw [hw]; clear hw wn)
      | (go_at_call_of 29 bw; refine (kept_ok _ _ z1 t7 (HLbB.out.below ((HBB.out.trans (g6.mono HBB.out.size)).trans hk7.below)) (HA1B.out.below ((HBB.out.trans (g6.mono HBB.out.size)).trans hk7.below)) (by omega)).mono ?_; rintro e' wn ⟨rfl, hw⟩; rw [hw]; clear hw wn)
      | (go_at_call 30; refine (awake6_any t7 (HTB.out.below ((HBB.out.trans (g6.mono HBB.out.size)).trans hk7.below))).mono ?_; rintro e' t8 ⟨rfl, hb8⟩; have xM80 := cell_up6 hb8 xM70; have xM81 := cell_up6 hb8 xM71; have xN80 := cell_up6 hb8 xN70; have xN81 := cell_up6 hb8 xN71; have xP80 := cell_up6 hb8 xP70; have xP81 := cell_up6 hb8 xP71; have xQ80 := cell_up6 hb8 xQ70; have xQ81 := cell_up6 hb8 xQ71; have xR80 := cell_up6 hb8 xR70; have xR81 := cell_up6 hb8 xR71; have xB80 := cell_up6 hb8 xB70; have xB81 := cell_up6 hb8 xB71; have xA80 := cell_up6 hb8 xA70; have xA81 := cell_up6 hb8 xA71; clear xM70 xM71 xN70 xN71 xP70 xP71 xQ70 xQ71 xR70 xR71 xB70 xB71 xA70 xA71))
    have HFIN := hide (HWB.out.trans ((((HBB.out.trans (g6.mono HBB.out.size)).trans hk7.below).trans (hb8.mono (Nat.le_trans (Nat.le_trans HBB.out.size g6.size) hk7.below.size))).mono HWB.out.size))
    clear hb1 hb2 hb3 hb4 hb5 hb6 hb8 hk7
    go_wp2
    go_ret
    exact ⟨rfl, HFIN.out⟩

end Go.Proofs.YtkcncdcjlhiimaaGreatDoor
