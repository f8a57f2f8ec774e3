/- Package span: hull of two and of four numbers at one scale. -/
import Derived.Test.YtppkhhbhnhijpaaGreatDoorQZ
namespace Go.Proofs.YtppkhhbhnhijpaaGreatDoor
open Go.RowKit
open Lm
attribute [local go_sem ↓] Go.wp_at_zero Go.wp_at_succ

/-- The least and the greatest of some numbers, as they were handed in. -/
def HullR (w : World) (e : Ending) (w' : World) (L : Nat) (V1 V2 : Int) : Prop :=
  (∃ b a n k x b' a' n' k' x', e = .returned (.agg #[.bool b, .slice a n k, .int .i64 x, .bool b', .slice a' n' k', .int .i64 x']) ∧ N8 w' b a n k x L V1 ∧ N8 w' b' a' n' k' x' L V2) ∧ Below w.heap.size w w'

theorem N8.boxH {w : World} {b : Bool} {a0 : Option Addr} {n0 k0 : Nat} {ex : Int} {L : Nat} {V : Int} {g o : Nat} {p : Bool} {a : Option Addr} {n c : Nat} {e : Int} {p' : Bool} {a' : Option Addr} {n' c' : Nat} {e' : Int} {t : TypeId} {u : Value} (h : N8 w b a0 n0 k0 ex L V) (hl : w.heap[g]? = some (.cells #[.bool p, .slice a n c, .int .i64 e, .bool p', .slice a' n' c', .int .i64 e'] t)) : N8 (w.setCell ⟨g, o, none⟩ u) b a0 n0 k0 ex L V := by
  obtain ⟨X, h1, h2, h3⟩ := h
  exact ⟨X, h1, h2.boxH hl, h3⟩

theorem N8.hexa {w : World} {b : Bool} {a0 : Option Addr} {n0 k0 : Nat} {ex : Int} {L : Nat} {V : Int} {g : Nat} {p : Bool} {a : Option Addr} {n c : Nat} {e : Int} {p' : Bool} {a' : Option Addr} {n' c' : Nat} {e' : Int} {t : TypeId} (h : N8 w b a0 n0 k0 ex L V) (hl : w.heap[g]? = some (.cells #[.bool p, .slice a n c, .int .i64 e, .bool p', .slice a' n' c', .int .i64 e'] t)) (b1 : Bool) (a1 : Option Addr) (n1 c1 : Nat) (e1 : Int) (b2 : Bool) (a2 : Option Addr) (n2 c2 : Nat) (e2 : Int) :
    N8 ((((((w.setCell ⟨g, 0, none⟩ (.bool b1)).setCell ⟨g, 1, none⟩ (.slice a1 n1 c1)).setCell ⟨g, 2, none⟩ (.int .i64 e1)).setCell ⟨g, 3, none⟩ (.bool b2)).setCell ⟨g, 4, none⟩ (.slice a2 n2 c2)).setCell ⟨g, 5, none⟩ (.int .i64 e2)) b a0 n0 k0 ex L V := by
  obtain ⟨X, h1, h2, h3⟩ := h
  exact ⟨X, h1, h2.hexa hl b1 a1 n1 c1 e1 b2 a2 n2 c2 e2, h3⟩

/-- A span's lower end written over. -/
theorem lo3 {t : World} {g : Nat} {p : Bool} {a : Option Addr} {n c : Nat} {e : Int} {p' : Bool} {a' : Option Addr} {n' c' : Nat} {e' : Int} {ty : TypeId} (hl : t.heap[g]? = some (.cells #[.bool p, .slice a n c, .int .i64 e, .bool p', .slice a' n' c', .int .i64 e'] ty)) (b0 : Bool) (a0 : Option Addr) (n0 c0 : Nat) (e0 : Int) :
    ∃ W, ((t.setCell ⟨g, 0, none⟩ (.bool b0)).setCell ⟨g, 1, none⟩ (.slice a0 n0 c0)).setCell ⟨g, 2, none⟩ (.int .i64 e0) = W ∧ W.heap[g]? = some (.cells #[.bool b0, .slice a0 n0 c0, .int .i64 e0, .bool p', .slice a' n' c', .int .i64 e'] ty) ∧ (∀ h x, h ≠ g → t.heap[h]? = some x → W.heap[h]? = some x) ∧ (∀ B w, Below B w t → B ≤ g → Below B w W) ∧ (∀ b a n k ex L V, N8 t b a n k ex L V → N8 W b a n k ex L V) := by
  have l0 : (t.setCell ⟨g, 0, none⟩ (.bool b0)).heap[g]? = some (.cells #[.bool b0, .slice a n c, .int .i64 e, .bool p', .slice a' n' c', .int .i64 e'] ty) := box_modify (k := 0) hl _
  have l1 : ((t.setCell ⟨g, 0, none⟩ (.bool b0)).setCell ⟨g, 1, none⟩ (.slice a0 n0 c0)).heap[g]? = some (.cells #[.bool b0, .slice a0 n0 c0, .int .i64 e, .bool p', .slice a' n' c', .int .i64 e'] ty) := box_modify (k := 1) l0 _
  have l2 : (((t.setCell ⟨g, 0, none⟩ (.bool b0)).setCell ⟨g, 1, none⟩ (.slice a0 n0 c0)).setCell ⟨g, 2, none⟩ (.int .i64 e0)).heap[g]? = some (.cells #[.bool b0, .slice a0 n0 c0, .int .i64 e0, .bool p', .slice a' n' c', .int .i64 e'] ty) := box_modify (k := 2) l1 _
  refine ⟨_, rfl, l2, fun h x hn hx => ?_, fun B w hb hB => ((hb.setCell (p := ⟨g, 0, none⟩) hB _).setCell (p := ⟨g, 1, none⟩) hB _).setCell (p := ⟨g, 2, none⟩) hB _, fun b a n k ex L V h => ((h.boxH hl).boxH l0).boxH l1⟩
  rw [Below.heap_setCell _ _ _ _ hn, Below.heap_setCell _ _ _ _ hn, Below.heap_setCell _ _ _ _ hn]; exact hx

/-- A span's higher end written over. -/
theorem hi3 {t : World} {g : Nat} {p : Bool} {a : Option Addr} {n c : Nat} {e : Int} {p' : Bool} {a' : Option Addr} {n' c' : Nat} {e' : Int} {ty : TypeId} (hl : t.heap[g]? = some (.cells #[.bool p, .slice a n c, .int .i64 e, .bool p', .slice a' n' c', .int .i64 e'] ty)) (b0 : Bool) (a0 : Option Addr) (n0 c0 : Nat) (e0 : Int) :
    ∃ W, ((t.setCell ⟨g, 3, none⟩ (.bool b0)).setCell ⟨g, 4, none⟩ (.slice a0 n0 c0)).setCell ⟨g, 5, none⟩ (.int .i64 e0) = W ∧ W.heap[g]? = some (.cells #[.bool p, .slice a n c, .int .i64 e, .bool b0, .slice a0 n0 c0, .int .i64 e0] ty) ∧ (∀ h x, h ≠ g → t.heap[h]? = some x → W.heap[h]? = some x) ∧ (∀ B w, Below B w t → B ≤ g → Below B w W) ∧ (∀ b a n k ex L V, N8 t b a n k ex L V → N8 W b a n k ex L V) := by
  have l0 : (t.setCell ⟨g, 3, none⟩ (.bool b0)).heap[g]? = some (.cells #[.bool p, .slice a n c, .int .i64 e, .bool b0, .slice a' n' c', .int .i64 e'] ty) := box_modify (k := 3) hl _
  have l1 : ((t.setCell ⟨g, 3, none⟩ (.bool b0)).setCell ⟨g, 4, none⟩ (.slice a0 n0 c0)).heap[g]? = some (.cells #[.bool p, .slice a n c, .int .i64 e, .bool b0, .slice a0 n0 c0, .int .i64 e'] ty) := box_modify (k := 4) l0 _
  have l2 : (((t.setCell ⟨g, 3, none⟩ (.bool b0)).setCell ⟨g, 4, none⟩ (.slice a0 n0 c0)).setCell ⟨g, 5, none⟩ (.int .i64 e0)).heap[g]? = some (.cells #[.bool p, .slice a n c, .int .i64 e, .bool b0, .slice a0 n0 c0, .int .i64 e0] ty) := box_modify (k := 5) l1 _
  refine ⟨_, rfl, l2, fun h x hn hx => ?_, fun B w hb hB => ((hb.setCell (p := ⟨g, 3, none⟩) hB _).setCell (p := ⟨g, 4, none⟩) hB _).setCell (p := ⟨g, 5, none⟩) hB _, fun b a n k ex L V h => ((h.boxH hl).boxH l0).boxH l1⟩
  rw [Below.heap_setCell _ _ _ _ hn, Below.heap_setCell _ _ _ _ hn, Below.heap_setCell _ _ _ _ hn]; exact hx

set_option maxRecDepth 20000 in
set_option maxHeartbeats 8000000 in
theorem hull1N (gs : Nat) (b1 : Bool) (a1 : Option Addr) (n1 k1 : Nat) (ex1 : Int) (b2 : Bool) (a2 : Option Addr) (n2 k2 : Nat) (ex2 : Int) (L : Nat) (V1 V2 : Int) (w : World) (hg : w.heap[gs]? = some (.cells #[.bool b2, .slice a2 n2 k2, .int .i64 ex2] 31)) (h1 : N8 w b1 a1 n1 k1 ex1 L V1) (h2 : N8 w b2 a2 n2 k2 ex2 L V2) (hL : 4611686018427387904 ≤ L) :
    Calls Tryz.prog 56 #[.agg #[.bool b1, .slice a1 n1 k1, .int .i64 ex1], .slice (some ⟨gs, 0, none⟩) 1 1] w fun e w' => HullR w e w' L (min V1 V2) (max V1 V2) := by
  obtain ⟨w0, hw0, hb0, q0, q9⟩ := enter2 w (.cells #[.bool b1, .slice a1 n1 k1, .int .i64 ex1] 31) (.cells #[.bool false, .slice none 0 0, .int .i64 0, .bool false, .slice none 0 0, .int .i64 0] 33)
  obtain ⟨w1, hw1, hb1, qm⟩ := enter1 w0 (.cells #[.bool b1, .slice a1 n1 k1, .int .i64 ex1, .bool b1, .slice a1 n1 k1, .int .i64 ex1] 33)
  obtain ⟨y0, y1, y2⟩ := tri8 q0
  have HG := hide hg
  have LL : Hid (4611686018427387904 ≤ L) := hide hL
  have hb01 := bl_trans8 hb0 hb1
  have I0 := h1.below hb01
  have IB := hb01
  have IZ := block_upW hb1 q9
  have IM := qm
  have HNE : Hid (w.heap.size + 1 ≠ w0.heap.size) := hide (by have := lt_of_block q9; omega)
  have HGE : Hid (w.heap.size ≤ w0.heap.size) := hide hb0.size
  have HX2 := hide h2
  have II := hide (And.intro I0 (And.intro IB (And.intro IZ IM)))
  clear hg hL hb0 hb1 hb01 q0 q9 qm I0 IB IZ IM h1 h2
  go_enter Tryz.func56, Tryz.ntmps56
  go_wp2
  clear y0 y1 y2 hw0 hw1
  go_loopw [13] (fun i wr => ∃ (k : Nat) (p : Bool) (pa : Option Addr) (pn pk : Nat) (pe : Int) (q : Bool) (qa : Option Addr) (qn qk : Nat) (qe : Int) (VL VH : Int), k ≤ 1 ∧ i = .int .i64 k ∧ (k = 0 → VL = V1 ∧ VH = V1) ∧ (k = 1 → VL = (min V1 V2) ∧ VH = (max V1 V2)) ∧ wr.heap[w0.heap.size]? = some (.cells #[.bool p, .slice pa pn pk, .int .i64 pe, .bool q, .slice qa qn qk, .int .i64 qe] 33) ∧ N8 wr p pa pn pk pe L VL ∧ N8 wr q qa qn qk qe L VH ∧ wr.heap[w.heap.size + 1]? = some (.cells #[.bool false, .slice none 0 0, .int .i64 0, .bool false, .slice none 0 0, .int .i64 0] 33) ∧ Below w.heap.size w wr) (fun i _ => 1 - (intOf i).toNat)
  case atStart => exact ⟨0, _, _, _, _, _, _, _, _, _, _, V1, V1, by omega, rfl, (fun _ => ⟨rfl, rfl⟩), (fun h => absurd h (by decide)), II.out.2.2.2, II.out.1, II.out.1, II.out.2.2.1, II.out.2.1⟩
  case round =>
    obtain ⟨k, p, pa, pn, pk, pe, q, qa, qn, qk, qe, VL, VH, hk, rfl, e0, e1, hM, hLo, hHi, hZ, hB⟩ := hrel
    have HM := hide hM
    have HLo := hide hLo
    have HHi := hide hHi
    have HZ := hide hZ
    have HB := hide hB
    have HOLD : Hid (w0.heap.size < wr.heap.size) := hide (lt_of_block hM)
    have E0 := hide e0
    have E1 := hide e1
    clear hM hLo hHi hZ hB II e0 e1
    rcases (show k = 0 ∨ k = 1 by omega) with rfl | rfl
    · have EE := hide (E0.out rfl)
      clear E0 E1
      obtain ⟨u1, hu1, hbu, qu⟩ := enter1 wr (.cells #[.bool b2, .slice a2 n2 k2, .int .i64 ex2] 31)
      have CS := block_upW HB.out HG.out
      have c0 : wr.cell? ⟨gs, 0, none⟩ = some (.bool b2) := by simp [World.cell?, CS]
      have c1 : wr.cell? ⟨gs, 1, none⟩ = some (.slice a2 n2 k2) := by simp [World.cell?, CS]
      have c2 : wr.cell? ⟨gs, 2, none⟩ = some (.int .i64 ex2) := by simp [World.cell?, CS]
      have hbu1 := bl_trans8 HB.out hbu
      have C := slessN b2 a2 n2 k2 ex2 p pa pn pk pe L V2 VL u1 (HX2.out.below hbu1) (HLo.out.below hbu) LL.out
      have M1 := hide (block_upW hbu HM.out)
      have Z1 := hide (block_upW hbu HZ.out)
      have D1x := hide qu
      have L1 := hide (HLo.out.below hbu)
      have H1 := hide (HHi.out.below hbu)
      have B1 := hide hbu1
      obtain ⟨m0, m1, m2, m3, m4, m5⟩ := hexa M1.out
      obtain ⟨d0, d1, d2⟩ := tri8 D1x.out
      obtain ⟨D1, hD1⟩ : ∃ D, decide (V2 < VL) = D := ⟨_, rfl⟩
      rw [hD1] at C
      have ED1 := hide hD1
      clear CS hbu hbu1 qu hD1 HM HZ HLo HHi HB
      cases D1
      · skip
        go_wp2_with fail
        refine C.mono ?_
        rintro e t2 ⟨rfl, g2⟩
        clear C m0 m1 m2 m3 m4 m5 d0 d1 d2 c0 c1 c2 hu1
        have M2 := hide (block_upW g2 M1.out)
        have Z2 := hide (block_upW g2 Z1.out)
        have D2x := hide (block_upW g2 D1x.out)
        have L2 := hide (L1.out.below g2)
        have H2 := hide (H1.out.below g2)
        have B2 := hide (bl_trans8 B1.out g2)
        clear g2
        have C := slessN q qa qn qk qe b2 a2 n2 k2 ex2 L VH V2 t2 H2.out (HX2.out.below B2.out) LL.out
        obtain ⟨D2, hD2⟩ : ∃ D, decide (VH < V2) = D := ⟨_, rfl⟩
        rw [hD2] at C
        have ED2 := hide hD2
        clear hD2
        obtain ⟨m0, m1, m2, m3, m4, m5⟩ := hexa M2.out
        obtain ⟨d0, d1, d2⟩ := tri8 D2x.out
        cases D2
        · skip
          go_wp2_with fail
          refine C.mono ?_
          rintro e t3 ⟨rfl, g3⟩
          clear C m0 m1 m2 m3 m4 m5 d0 d1 d2
          have M3 := hide (block_upW g3 M2.out)
          have Z3 := hide (block_upW g3 Z2.out)
          have L3 := hide (L2.out.below g3)
          have H3 := hide (H2.out.below g3)
          have B3 := hide (bl_trans8 B2.out g3)
          clear g3
          go_wp2
          go_roundw
          case rel => exact ⟨1, p, pa, pn, pk, pe, q, qa, qn, qk, qe, _, _, by omega, by go_num, (fun h => absurd h (by decide)), (fun _ => ⟨(by have g := of_decide_eq_false ED1.out; have e := EE.out.1; omega), (by have g := of_decide_eq_false ED2.out; have e := EE.out.2; omega)⟩), M3.out, L3.out, H3.out, Z3.out, B3.out⟩
          case measure => simp [intOf]
        · skip
          go_wp2_with fail
          refine C.mono ?_
          rintro e t3 ⟨rfl, g3⟩
          clear C m0 m1 m2 m3 m4 m5 d0 d1 d2
          obtain ⟨W4, hW4, n4', o4, l4, s4⟩ := hi3 (block_upW g3 M2.out) b2 a2 n2 k2 ex2
          obtain ⟨m0, m1, m2, m3, m4, m5⟩ := hexa (block_upW g3 M2.out)
          have hf1 := hexaf (block_upW g3 M2.out)
          obtain ⟨d0, d1, d2⟩ := tri8 (block_upW g3 D2x.out)
          have M3 := hide n4'
          have Z3 := hide (o4 _ _ HNE.out (block_upW g3 Z2.out))
          have L3 := hide (s4 _ _ _ _ _ _ _ (L2.out.below g3))
          have H3 := hide (s4 _ _ _ _ _ _ _ ((HX2.out.below (bl_trans8 B2.out g3))))
          have B3 := hide (l4 _ _ (bl_trans8 B2.out g3) HGE.out)
          clear g3 n4' o4 l4 s4
          go_wp2
          clear hW4 m0 m1 m2 m3 m4 m5 d0 d1 d2 hf1
          go_roundw
          case rel => exact ⟨1, p, pa, pn, pk, pe, b2, a2, n2, k2, ex2, _, _, by omega, by go_num, (fun h => absurd h (by decide)), (fun _ => ⟨(by have g := of_decide_eq_false ED1.out; have e := EE.out.1; omega), (by have g := of_decide_eq_true ED2.out; have e := EE.out.2; omega)⟩), M3.out, L3.out, H3.out, Z3.out, B3.out⟩
          case measure => simp [intOf]
      · skip
        go_wp2_with fail
        refine C.mono ?_
        rintro e t2 ⟨rfl, g2⟩
        clear C m0 m1 m2 m3 m4 m5 d0 d1 d2 c0 c1 c2 hu1
        obtain ⟨W2, hW2, n2', o2, l2, s2⟩ := lo3 (block_upW g2 M1.out) b2 a2 n2 k2 ex2
        obtain ⟨m0, m1, m2, m3, m4, m5⟩ := hexa (block_upW g2 M1.out)
        have hf1 := hexaf (block_upW g2 M1.out)
        obtain ⟨d0, d1, d2⟩ := tri8 (block_upW g2 D1x.out)
        have M2 := hide n2'
        have Z2 := hide (o2 _ _ HNE.out (block_upW g2 Z1.out))
        have D2x := hide (o2 _ _ (by have h1 := lt_of_block M1.out; have h2 := lt_of_block D1x.out; have h3 := HOLD.out; omega) (block_upW g2 D1x.out))
        have L2 := hide (s2 _ _ _ _ _ _ _ (HX2.out.below (bl_trans8 B1.out g2)))
        have H2 := hide (s2 _ _ _ _ _ _ _ (H1.out.below g2))
        have B2 := hide (l2 _ _ (bl_trans8 B1.out g2) HGE.out)
        clear g2 n2' o2 l2 s2
        go_upto_region 7 with fail
        clear hW2 m0 m1 m2 m3 m4 m5 d0 d1 d2 hf1
        have C := slessN q qa qn qk qe b2 a2 n2 k2 ex2 L VH V2 W2 H2.out (HX2.out.below B2.out) LL.out
        obtain ⟨D2, hD2⟩ : ∃ D, decide (VH < V2) = D := ⟨_, rfl⟩
        rw [hD2] at C
        have ED2 := hide hD2
        clear hD2
        obtain ⟨m0, m1, m2, m3, m4, m5⟩ := hexa M2.out
        obtain ⟨d0, d1, d2⟩ := tri8 D2x.out
        cases D2
        · skip
          go_wp2_with fail
          refine C.mono ?_
          rintro e t3 ⟨rfl, g3⟩
          clear C m0 m1 m2 m3 m4 m5 d0 d1 d2
          have M3 := hide (block_upW g3 M2.out)
          have Z3 := hide (block_upW g3 Z2.out)
          have L3 := hide (L2.out.below g3)
          have H3 := hide (H2.out.below g3)
          have B3 := hide (bl_trans8 B2.out g3)
          clear g3
          go_wp2
          go_roundw
          case rel => exact ⟨1, b2, a2, n2, k2, ex2, q, qa, qn, qk, qe, _, _, by omega, by go_num, (fun h => absurd h (by decide)), (fun _ => ⟨(by have g := of_decide_eq_true ED1.out; have e := EE.out.1; omega), (by have g := of_decide_eq_false ED2.out; have e := EE.out.2; omega)⟩), M3.out, L3.out, H3.out, Z3.out, B3.out⟩
          case measure => simp [intOf]
        · skip
          go_wp2_with fail
          refine C.mono ?_
          rintro e t3 ⟨rfl, g3⟩
          clear C m0 m1 m2 m3 m4 m5 d0 d1 d2
          obtain ⟨W4, hW4, n4', o4, l4, s4⟩ := hi3 (block_upW g3 M2.out) b2 a2 n2 k2 ex2
          obtain ⟨m0, m1, m2, m3, m4, m5⟩ := hexa (block_upW g3 M2.out)
          have hf1 := hexaf (block_upW g3 M2.out)
          obtain ⟨d0, d1, d2⟩ := tri8 (block_upW g3 D2x.out)
          have M3 := hide n4'
          have Z3 := hide (o4 _ _ HNE.out (block_upW g3 Z2.out))
          have L3 := hide (s4 _ _ _ _ _ _ _ (L2.out.below g3))
          have H3 := hide (s4 _ _ _ _ _ _ _ ((HX2.out.below (bl_trans8 B2.out g3))))
          have B3 := hide (l4 _ _ (bl_trans8 B2.out g3) HGE.out)
          clear g3 n4' o4 l4 s4
          go_wp2
          clear hW4 m0 m1 m2 m3 m4 m5 d0 d1 d2 hf1
          go_roundw
          case rel => exact ⟨1, b2, a2, n2, k2, ex2, b2, a2, n2, k2, ex2, _, _, by omega, by go_num, (fun h => absurd h (by decide)), (fun _ => ⟨(by have g := of_decide_eq_true ED1.out; have e := EE.out.1; omega), (by have g := of_decide_eq_true ED2.out; have e := EE.out.2; omega)⟩), M3.out, L3.out, H3.out, Z3.out, B3.out⟩
          case measure => simp [intOf]
    · have EE := hide (E1.out rfl)
      clear E0 E1
      obtain ⟨m0, m1, m2, m3, m4, m5⟩ := hexa HM.out
      obtain ⟨z0, z1, z2, z3, z4, z5⟩ := hexa HZ.out
      have zf := hexaf HZ.out
      go_wp2
      have T3 := hexa_all HZ.out (.bool p) (.slice pa pn pk) (.int .i64 pe) (.bool q) (.slice qa qn qk) (.int .i64 qe)
      have T4 := below_hexa HB.out (show w.heap.size ≤ w.heap.size + 1 by omega) (.bool p) (.slice pa pn pk) (.int .i64 pe) (.bool q) (.slice qa qn qk) (.int .i64 qe)
      have T5 := HLo.out.hexa HZ.out p pa pn pk pe q qa qn qk qe
      have T6 := HHi.out.hexa HZ.out p pa pn pk pe q qa qn qk qe
      obtain ⟨p0, p1, p2, p3, p4, p5⟩ := hexa T3
      have HE := hide (And.intro T5 (And.intro T6 T4))
      clear T3 T4 T5 T6
      generalize (((((wr.setCell ⟨w.heap.size + 1, 0, none⟩ (.bool p)).setCell ⟨w.heap.size + 1, 1, none⟩ (.slice pa pn pk)).setCell ⟨w.heap.size + 1, 2, none⟩ (.int .i64 pe)).setCell ⟨w.heap.size + 1, 3, none⟩ (.bool q)).setCell ⟨w.heap.size + 1, 4, none⟩ (.slice qa qn qk)).setCell ⟨w.heap.size + 1, 5, none⟩ (.int .i64 qe) = w5 at *
      refine bodyPost_ret (v := .agg #[.bool p, .slice pa pn pk, .int .i64 pe, .bool q, .slice qa qn qk, .int .i64 qe]) (by simp [results, Tryz.results56, go_sem, p0, p1, p2, p3, p4, p5]) rfl ?_
      have x1 := HE.out.1
      have x2 := HE.out.2.1
      rw [EE.out.1] at x1
      rw [EE.out.2] at x2
      exact ⟨⟨_, _, _, _, _, _, _, _, _, _, rfl, x1, x2⟩, HE.out.2.2⟩

set_option maxRecDepth 20000 in
set_option maxHeartbeats 8000000 in
theorem hull3N (gs : Nat) (b1 : Bool) (a1 : Option Addr) (n1 k1 : Nat) (ex1 : Int) (b2 : Bool) (a2 : Option Addr) (n2 k2 : Nat) (ex2 : Int) (b3 : Bool) (a3 : Option Addr) (n3 k3 : Nat) (ex3 : Int) (b4 : Bool) (a4 : Option Addr) (n4 k4 : Nat) (ex4 : Int) (L : Nat) (V1 V2 V3 V4 : Int) (w : World) (hg : w.heap[gs]? = some (.cells #[.bool b2, .slice a2 n2 k2, .int .i64 ex2, .bool b3, .slice a3 n3 k3, .int .i64 ex3, .bool b4, .slice a4 n4 k4, .int .i64 ex4] 31)) (h1 : N8 w b1 a1 n1 k1 ex1 L V1) (h2 : N8 w b2 a2 n2 k2 ex2 L V2) (h3 : N8 w b3 a3 n3 k3 ex3 L V3) (h4 : N8 w b4 a4 n4 k4 ex4 L V4) (hL : 4611686018427387904 ≤ L) :
    Calls Tryz.prog 56 #[.agg #[.bool b1, .slice a1 n1 k1, .int .i64 ex1], .slice (some ⟨gs, 0, none⟩) 3 3] w fun e w' => HullR w e w' L (min (min (min V1 V2) V3) V4) (max (max (max V1 V2) V3) V4) := by
  obtain ⟨w0, hw0, hb0, q0, q9⟩ := enter2 w (.cells #[.bool b1, .slice a1 n1 k1, .int .i64 ex1] 31) (.cells #[.bool false, .slice none 0 0, .int .i64 0, .bool false, .slice none 0 0, .int .i64 0] 33)
  obtain ⟨w1, hw1, hb1, qm⟩ := enter1 w0 (.cells #[.bool b1, .slice a1 n1 k1, .int .i64 ex1, .bool b1, .slice a1 n1 k1, .int .i64 ex1] 33)
  obtain ⟨y0, y1, y2⟩ := tri8 q0
  have HG := hide hg
  have LL : Hid (4611686018427387904 ≤ L) := hide hL
  have hb01 := bl_trans8 hb0 hb1
  have I0 := h1.below hb01
  have IB := hb01
  have IZ := block_upW hb1 q9
  have IM := qm
  have HNE : Hid (w.heap.size + 1 ≠ w0.heap.size) := hide (by have := lt_of_block q9; omega)
  have HGE : Hid (w.heap.size ≤ w0.heap.size) := hide hb0.size
  have HX2 := hide h2
  have HX3 := hide h3
  have HX4 := hide h4
  have II := hide (And.intro I0 (And.intro IB (And.intro IZ IM)))
  clear hg hL hb0 hb1 hb01 q0 q9 qm I0 IB IZ IM h1 h2 h3 h4
  go_enter Tryz.func56, Tryz.ntmps56
  go_wp2
  clear y0 y1 y2 hw0 hw1
  go_loopw [13] (fun i wr => ∃ (k : Nat) (p : Bool) (pa : Option Addr) (pn pk : Nat) (pe : Int) (q : Bool) (qa : Option Addr) (qn qk : Nat) (qe : Int) (VL VH : Int), k ≤ 3 ∧ i = .int .i64 k ∧ (k = 0 → VL = V1 ∧ VH = V1) ∧ (k = 1 → VL = (min V1 V2) ∧ VH = (max V1 V2)) ∧ (k = 2 → VL = (min (min V1 V2) V3) ∧ VH = (max (max V1 V2) V3)) ∧ (k = 3 → VL = (min (min (min V1 V2) V3) V4) ∧ VH = (max (max (max V1 V2) V3) V4)) ∧ wr.heap[w0.heap.size]? = some (.cells #[.bool p, .slice pa pn pk, .int .i64 pe, .bool q, .slice qa qn qk, .int .i64 qe] 33) ∧ N8 wr p pa pn pk pe L VL ∧ N8 wr q qa qn qk qe L VH ∧ wr.heap[w.heap.size + 1]? = some (.cells #[.bool false, .slice none 0 0, .int .i64 0, .bool false, .slice none 0 0, .int .i64 0] 33) ∧ Below w.heap.size w wr) (fun i _ => 3 - (intOf i).toNat)
  case atStart => exact ⟨0, _, _, _, _, _, _, _, _, _, _, V1, V1, by omega, rfl, (fun _ => ⟨rfl, rfl⟩), (fun h => absurd h (by decide)), (fun h => absurd h (by decide)), (fun h => absurd h (by decide)), II.out.2.2.2, II.out.1, II.out.1, II.out.2.2.1, II.out.2.1⟩
  case round =>
    obtain ⟨k, p, pa, pn, pk, pe, q, qa, qn, qk, qe, VL, VH, hk, rfl, e0, e1, e2, e3, hM, hLo, hHi, hZ, hB⟩ := hrel
    have HM := hide hM
    have HLo := hide hLo
    have HHi := hide hHi
    have HZ := hide hZ
    have HB := hide hB
    have HOLD : Hid (w0.heap.size < wr.heap.size) := hide (lt_of_block hM)
    have E0 := hide e0
    have E1 := hide e1
    have E2 := hide e2
    have E3 := hide e3
    clear hM hLo hHi hZ hB II e0 e1 e2 e3
    rcases (show k = 0 ∨ k = 1 ∨ k = 2 ∨ k = 3 by omega) with rfl | rfl | rfl | rfl
    · have EE := hide (E0.out rfl)
      clear E0 E1 E2 E3
      obtain ⟨u1, hu1, hbu, qu⟩ := enter1 wr (.cells #[.bool b2, .slice a2 n2 k2, .int .i64 ex2] 31)
      have CS := block_upW HB.out HG.out
      have c0 : wr.cell? ⟨gs, 0, none⟩ = some (.bool b2) := by simp [World.cell?, CS]
      have c1 : wr.cell? ⟨gs, 1, none⟩ = some (.slice a2 n2 k2) := by simp [World.cell?, CS]
      have c2 : wr.cell? ⟨gs, 2, none⟩ = some (.int .i64 ex2) := by simp [World.cell?, CS]
      have hbu1 := bl_trans8 HB.out hbu
      have C := slessN b2 a2 n2 k2 ex2 p pa pn pk pe L V2 VL u1 (HX2.out.below hbu1) (HLo.out.below hbu) LL.out
      have M1 := hide (block_upW hbu HM.out)
      have Z1 := hide (block_upW hbu HZ.out)
      have D1x := hide qu
      have L1 := hide (HLo.out.below hbu)
      have H1 := hide (HHi.out.below hbu)
      have B1 := hide hbu1
      obtain ⟨m0, m1, m2, m3, m4, m5⟩ := hexa M1.out
      obtain ⟨d0, d1, d2⟩ := tri8 D1x.out
      obtain ⟨D1, hD1⟩ : ∃ D, decide (V2 < VL) = D := ⟨_, rfl⟩
      rw [hD1] at C
      have ED1 := hide hD1
      clear CS hbu hbu1 qu hD1 HM HZ HLo HHi HB
      cases D1
      · skip
        go_wp2_with fail
        refine C.mono ?_
        rintro e t2 ⟨rfl, g2⟩
        clear C m0 m1 m2 m3 m4 m5 d0 d1 d2 c0 c1 c2 hu1
        have M2 := hide (block_upW g2 M1.out)
        have Z2 := hide (block_upW g2 Z1.out)
        have D2x := hide (block_upW g2 D1x.out)
        have L2 := hide (L1.out.below g2)
        have H2 := hide (H1.out.below g2)
        have B2 := hide (bl_trans8 B1.out g2)
        clear g2
        have C := slessN q qa qn qk qe b2 a2 n2 k2 ex2 L VH V2 t2 H2.out (HX2.out.below B2.out) LL.out
        obtain ⟨D2, hD2⟩ : ∃ D, decide (VH < V2) = D := ⟨_, rfl⟩
        rw [hD2] at C
        have ED2 := hide hD2
        clear hD2
        obtain ⟨m0, m1, m2, m3, m4, m5⟩ := hexa M2.out
        obtain ⟨d0, d1, d2⟩ := tri8 D2x.out
        cases D2
        · skip
          go_wp2_with fail
          refine C.mono ?_
          rintro e t3 ⟨rfl, g3⟩
          clear C m0 m1 m2 m3 m4 m5 d0 d1 d2
          have M3 := hide (block_upW g3 M2.out)
          have Z3 := hide (block_upW g3 Z2.out)
          have L3 := hide (L2.out.below g3)
          have H3 := hide (H2.out.below g3)
          have B3 := hide (bl_trans8 B2.out g3)
          clear g3
          go_wp2
          go_roundw
          case rel => exact ⟨1, p, pa, pn, pk, pe, q, qa, qn, qk, qe, _, _, by omega, by go_num, (fun h => absurd h (by decide)), (fun _ => ⟨(by have g := of_decide_eq_false ED1.out; have e := EE.out.1; omega), (by have g := of_decide_eq_false ED2.out; have e := EE.out.2; omega)⟩), (fun h => absurd h (by decide)), (fun h => absurd h (by decide)), M3.out, L3.out, H3.out, Z3.out, B3.out⟩
          case measure => simp [intOf]
        · skip
          go_wp2_with fail
          refine C.mono ?_
          rintro e t3 ⟨rfl, g3⟩
          clear C m0 m1 m2 m3 m4 m5 d0 d1 d2
          obtain ⟨W4, hW4, n4', o4, l4, s4⟩ := hi3 (block_upW g3 M2.out) b2 a2 n2 k2 ex2
          obtain ⟨m0, m1, m2, m3, m4, m5⟩ := hexa (block_upW g3 M2.out)
          have hf1 := hexaf (block_upW g3 M2.out)
          obtain ⟨d0, d1, d2⟩ := tri8 (block_upW g3 D2x.out)
          have M3 := hide n4'
          have Z3 := hide (o4 _ _ HNE.out (block_upW g3 Z2.out))
          have L3 := hide (s4 _ _ _ _ _ _ _ (L2.out.below g3))
          have H3 := hide (s4 _ _ _ _ _ _ _ ((HX2.out.below (bl_trans8 B2.out g3))))
          have B3 := hide (l4 _ _ (bl_trans8 B2.out g3) HGE.out)
          clear g3 n4' o4 l4 s4
          go_wp2
          clear hW4 m0 m1 m2 m3 m4 m5 d0 d1 d2 hf1
          go_roundw
          case rel => exact ⟨1, p, pa, pn, pk, pe, b2, a2, n2, k2, ex2, _, _, by omega, by go_num, (fun h => absurd h (by decide)), (fun _ => ⟨(by have g := of_decide_eq_false ED1.out; have e := EE.out.1; omega), (by have g := of_decide_eq_true ED2.out; have e := EE.out.2; omega)⟩), (fun h => absurd h (by decide)), (fun h => absurd h (by decide)), M3.out, L3.out, H3.out, Z3.out, B3.out⟩
          case measure => simp [intOf]
      · skip
        go_wp2_with fail
        refine C.mono ?_
        rintro e t2 ⟨rfl, g2⟩
        clear C m0 m1 m2 m3 m4 m5 d0 d1 d2 c0 c1 c2 hu1
        obtain ⟨W2, hW2, n2', o2, l2, s2⟩ := lo3 (block_upW g2 M1.out) b2 a2 n2 k2 ex2
        obtain ⟨m0, m1, m2, m3, m4, m5⟩ := hexa (block_upW g2 M1.out)
        have hf1 := hexaf (block_upW g2 M1.out)
        obtain ⟨d0, d1, d2⟩ := tri8 (block_upW g2 D1x.out)
        have M2 := hide n2'
        have Z2 := hide (o2 _ _ HNE.out (block_upW g2 Z1.out))
        have D2x := hide (o2 _ _ (by have h1 := lt_of_block M1.out; have h2 := lt_of_block D1x.out; have h3 := HOLD.out; omega) (block_upW g2 D1x.out))
        have L2 := hide (s2 _ _ _ _ _ _ _ (HX2.out.below (bl_trans8 B1.out g2)))
        have H2 := hide (s2 _ _ _ _ _ _ _ (H1.out.below g2))
        have B2 := hide (l2 _ _ (bl_trans8 B1.out g2) HGE.out)
        clear g2 n2' o2 l2 s2
        go_upto_region 7 with fail
        clear hW2 m0 m1 m2 m3 m4 m5 d0 d1 d2 hf1
        have C := slessN q qa qn qk qe b2 a2 n2 k2 ex2 L VH V2 W2 H2.out (HX2.out.below B2.out) LL.out
        obtain ⟨D2, hD2⟩ : ∃ D, decide (VH < V2) = D := ⟨_, rfl⟩
        rw [hD2] at C
        have ED2 := hide hD2
        clear hD2
        obtain ⟨m0, m1, m2, m3, m4, m5⟩ := hexa M2.out
        obtain ⟨d0, d1, d2⟩ := tri8 D2x.out
        cases D2
        · skip
          go_wp2_with fail
          refine C.mono ?_
          rintro e t3 ⟨rfl, g3⟩
          clear C m0 m1 m2 m3 m4 m5 d0 d1 d2
          have M3 := hide (block_upW g3 M2.out)
          have Z3 := hide (block_upW g3 Z2.out)
          have L3 := hide (L2.out.below g3)
          have H3 := hide (H2.out.below g3)
          have B3 := hide (bl_trans8 B2.out g3)
          clear g3
          go_wp2
          go_roundw
          case rel => exact ⟨1, b2, a2, n2, k2, ex2, q, qa, qn, qk, qe, _, _, by omega, by go_num, (fun h => absurd h (by decide)), (fun _ => ⟨(by have g := of_decide_eq_true ED1.out; have e := EE.out.1; omega), (by have g := of_decide_eq_false ED2.out; have e := EE.out.2; omega)⟩), (fun h => absurd h (by decide)), (fun h => absurd h (by decide)), M3.out, L3.out, H3.out, Z3.out, B3.out⟩
          case measure => simp [intOf]
        · skip
          go_wp2_with fail
          refine C.mono ?_
          rintro e t3 ⟨rfl, g3⟩
          clear C m0 m1 m2 m3 m4 m5 d0 d1 d2
          obtain ⟨W4, hW4, n4', o4, l4, s4⟩ := hi3 (block_upW g3 M2.out) b2 a2 n2 k2 ex2
          obtain ⟨m0, m1, m2, m3, m4, m5⟩ := hexa (block_upW g3 M2.out)
          have hf1 := hexaf (block_upW g3 M2.out)
          obtain ⟨d0, d1, d2⟩ := tri8 (block_upW g3 D2x.out)
          have M3 := hide n4'
          have Z3 := hide (o4 _ _ HNE.out (block_upW g3 Z2.out))
          have L3 := hide (s4 _ _ _ _ _ _ _ (L2.out.below g3))
          have H3 := hide (s4 _ _ _ _ _ _ _ ((HX2.out.below (bl_trans8 B2.out g3))))
          have B3 := hide (l4 _ _ (bl_trans8 B2.out g3) HGE.out)
          clear g3 n4' o4 l4 s4
          go_wp2
          clear hW4 m0 m1 m2 m3 m4 m5 d0 d1 d2 hf1
          go_roundw
          case rel => exact ⟨1, b2, a2, n2, k2, ex2, b2, a2, n2, k2, ex2, _, _, by omega, by go_num, (fun h => absurd h (by decide)), (fun _ => ⟨(by have g := of_decide_eq_true ED1.out; have e := EE.out.1; omega), (by have g := of_decide_eq_true ED2.out; have e := EE.out.2; omega)⟩), (fun h => absurd h (by decide)), (fun h => absurd h (by decide)), M3.out, L3.out, H3.out, Z3.out, B3.out⟩
          case measure => simp [intOf]
    · have EE := hide (E1.out rfl)
      clear E0 E1 E2 E3
      obtain ⟨u1, hu1, hbu, qu⟩ := enter1 wr (.cells #[.bool b3, .slice a3 n3 k3, .int .i64 ex3] 31)
      have CS := block_upW HB.out HG.out
      have c0 : wr.cell? ⟨gs, 3, none⟩ = some (.bool b3) := by simp [World.cell?, CS]
      have c1 : wr.cell? ⟨gs, 4, none⟩ = some (.slice a3 n3 k3) := by simp [World.cell?, CS]
      have c2 : wr.cell? ⟨gs, 5, none⟩ = some (.int .i64 ex3) := by simp [World.cell?, CS]
      have hbu1 := bl_trans8 HB.out hbu
      have C := slessN b3 a3 n3 k3 ex3 p pa pn pk pe L V3 VL u1 (HX3.out.below hbu1) (HLo.out.below hbu) LL.out
      have M1 := hide (block_upW hbu HM.out)
      have Z1 := hide (block_upW hbu HZ.out)
      have D1x := hide qu
      have L1 := hide (HLo.out.below hbu)
      have H1 := hide (HHi.out.below hbu)
      have B1 := hide hbu1
      obtain ⟨m0, m1, m2, m3, m4, m5⟩ := hexa M1.out
      obtain ⟨d0, d1, d2⟩ := tri8 D1x.out
      obtain ⟨D1, hD1⟩ : ∃ D, decide (V3 < VL) = D := ⟨_, rfl⟩
      rw [hD1] at C
      have ED1 := hide hD1
      clear CS hbu hbu1 qu hD1 HM HZ HLo HHi HB
      cases D1
      · skip
        go_wp2_with fail
        refine C.mono ?_
        rintro e t2 ⟨rfl, g2⟩
        clear C m0 m1 m2 m3 m4 m5 d0 d1 d2 c0 c1 c2 hu1
        have M2 := hide (block_upW g2 M1.out)
        have Z2 := hide (block_upW g2 Z1.out)
        have D2x := hide (block_upW g2 D1x.out)
        have L2 := hide (L1.out.below g2)
        have H2 := hide (H1.out.below g2)
        have B2 := hide (bl_trans8 B1.out g2)
        clear g2
        have C := slessN q qa qn qk qe b3 a3 n3 k3 ex3 L VH V3 t2 H2.out (HX3.out.below B2.out) LL.out
        obtain ⟨D2, hD2⟩ : ∃ D, decide (VH < V3) = D := ⟨_, rfl⟩
        rw [hD2] at C
        have ED2 := hide hD2
        clear hD2
        obtain ⟨m0, m1, m2, m3, m4, m5⟩ := hexa M2.out
        obtain ⟨d0, d1, d2⟩ := tri8 D2x.out
        cases D2
        · skip
          go_wp2_with fail
          refine C.mono ?_
          rintro e t3 ⟨rfl, g3⟩
          clear C m0 m1 m2 m3 m4 m5 d0 d1 d2
          have M3 := hide (block_upW g3 M2.out)
          have Z3 := hide (block_upW g3 Z2.out)
          have L3 := hide (L2.out.below g3)
          have H3 := hide (H2.out.below g3)
          have B3 := hide (bl_trans8 B2.out g3)
          clear g3
          go_wp2
          go_roundw
          case rel => exact ⟨2, p, pa, pn, pk, pe, q, qa, qn, qk, qe, _, _, by omega, by go_num, (fun h => absurd h (by decide)), (fun h => absurd h (by decide)), (fun _ => ⟨(by have g := of_decide_eq_false ED1.out; have e := EE.out.1; omega), (by have g := of_decide_eq_false ED2.out; have e := EE.out.2; omega)⟩), (fun h => absurd h (by decide)), M3.out, L3.out, H3.out, Z3.out, B3.out⟩
          case measure => simp [intOf]
        · skip
          go_wp2_with fail
          refine C.mono ?_
          rintro e t3 ⟨rfl, g3⟩
          clear C m0 m1 m2 m3 m4 m5 d0 d1 d2
          obtain ⟨W4, hW4, n4', o4, l4, s4⟩ := hi3 (block_upW g3 M2.out) b3 a3 n3 k3 ex3
          obtain ⟨m0, m1, m2, m3, m4, m5⟩ := hexa (block_upW g3 M2.out)
          have hf1 := hexaf (block_upW g3 M2.out)
          obtain ⟨d0, d1, d2⟩ := tri8 (block_upW g3 D2x.out)
          have M3 := hide n4'
          have Z3 := hide (o4 _ _ HNE.out (block_upW g3 Z2.out))
          have L3 := hide (s4 _ _ _ _ _ _ _ (L2.out.below g3))
          have H3 := hide (s4 _ _ _ _ _ _ _ ((HX3.out.below (bl_trans8 B2.out g3))))
          have B3 := hide (l4 _ _ (bl_trans8 B2.out g3) HGE.out)
          clear g3 n4' o4 l4 s4
          go_wp2
          clear hW4 m0 m1 m2 m3 m4 m5 d0 d1 d2 hf1
          go_roundw
          case rel => exact ⟨2, p, pa, pn, pk, pe, b3, a3, n3, k3, ex3, _, _, by omega, by go_num, (fun h => absurd h (by decide)), (fun h => absurd h (by decide)), (fun _ => ⟨(by have g := of_decide_eq_false ED1.out; have e := EE.out.1; omega), (by have g := of_decide_eq_true ED2.out; have e := EE.out.2; omega)⟩), (fun h => absurd h (by decide)), M3.out, L3.out, H3.out, Z3.out, B3.out⟩
          case measure => simp [intOf]
      · skip
        go_wp2_with fail
        refine C.mono ?_
        rintro e t2 ⟨rfl, g2⟩
        clear C m0 m1 m2 m3 m4 m5 d0 d1 d2 c0 c1 c2 hu1
        obtain ⟨W2, hW2, n2', o2, l2, s2⟩ := lo3 (block_upW g2 M1.out) b3 a3 n3 k3 ex3
        obtain ⟨m0, m1, m2, m3, m4, m5⟩ := hexa (block_upW g2 M1.out)
        have hf1 := hexaf (block_upW g2 M1.out)
        obtain ⟨d0, d1, d2⟩ := tri8 (block_upW g2 D1x.out)
        have M2 := hide n2'
        have Z2 := hide (o2 _ _ HNE.out (block_upW g2 Z1.out))
        have D2x := hide (o2 _ _ (by have h1 := lt_of_block M1.out; have h2 := lt_of_block D1x.out; have h3 := HOLD.out; omega) (block_upW g2 D1x.out))
        have L2 := hide (s2 _ _ _ _ _ _ _ (HX3.out.below (bl_trans8 B1.out g2)))
        have H2 := hide (s2 _ _ _ _ _ _ _ (H1.out.below g2))
        have B2 := hide (l2 _ _ (bl_trans8 B1.out g2) HGE.out)
        clear g2 n2' o2 l2 s2
        go_upto_region 7 with fail
        clear hW2 m0 m1 m2 m3 m4 m5 d0 d1 d2 hf1
        have C := slessN q qa qn qk qe b3 a3 n3 k3 ex3 L VH V3 W2 H2.out (HX3.out.below B2.out) LL.out
        obtain ⟨D2, hD2⟩ : ∃ D, decide (VH < V3) = D := ⟨_, rfl⟩
        rw [hD2] at C
        have ED2 := hide hD2
        clear hD2
        obtain ⟨m0, m1, m2, m3, m4, m5⟩ := hexa M2.out
        obtain ⟨d0, d1, d2⟩ := tri8 D2x.out
        cases D2
        · skip
          go_wp2_with fail
          refine C.mono ?_
          rintro e t3 ⟨rfl, g3⟩
          clear C m0 m1 m2 m3 m4 m5 d0 d1 d2
          have M3 := hide (block_upW g3 M2.out)
          have Z3 := hide (block_upW g3 Z2.out)
          have L3 := hide (L2.out.below g3)
          have H3 := hide (H2.out.below g3)
          have B3 := hide (bl_trans8 B2.out g3)
          clear g3
          go_wp2
          go_roundw
          case rel => exact ⟨2, b3, a3, n3, k3, ex3, q, qa, qn, qk, qe, _, _, by omega, by go_num, (fun h => absurd h (by decide)), (fun h => absurd h (by decide)), (fun _ => ⟨(by have g := of_decide_eq_true ED1.out; have e := EE.out.1; omega), (by have g := of_decide_eq_false ED2.out; have e := EE.out.2; omega)⟩), (fun h => absurd h (by decide)), M3.out, L3.out, H3.out, Z3.out, B3.out⟩
          case measure => simp [intOf]
        · skip
          go_wp2_with fail
          refine C.mono ?_
          rintro e t3 ⟨rfl, g3⟩
          clear C m0 m1 m2 m3 m4 m5 d0 d1 d2
          obtain ⟨W4, hW4, n4', o4, l4, s4⟩ := hi3 (block_upW g3 M2.out) b3 a3 n3 k3 ex3
          obtain ⟨m0, m1, m2, m3, m4, m5⟩ := hexa (block_upW g3 M2.out)
          have hf1 := hexaf (block_upW g3 M2.out)
          obtain ⟨d0, d1, d2⟩ := tri8 (block_upW g3 D2x.out)
          have M3 := hide n4'
          have Z3 := hide (o4 _ _ HNE.out (block_upW g3 Z2.out))
          have L3 := hide (s4 _ _ _ _ _ _ _ (L2.out.below g3))
          have H3 := hide (s4 _ _ _ _ _ _ _ ((HX3.out.below (bl_trans8 B2.out g3))))
          have B3 := hide (l4 _ _ (bl_trans8 B2.out g3) HGE.out)
          clear g3 n4' o4 l4 s4
          go_wp2
          clear hW4 m0 m1 m2 m3 m4 m5 d0 d1 d2 hf1
          go_roundw
          case rel => exact ⟨2, b3, a3, n3, k3, ex3, b3, a3, n3, k3, ex3, _, _, by omega, by go_num, (fun h => absurd h (by decide)), (fun h => absurd h (by decide)), (fun _ => ⟨(by have g := of_decide_eq_true ED1.out; have e := EE.out.1; omega), (by have g := of_decide_eq_true ED2.out; have e := EE.out.2; omega)⟩), (fun h => absurd h (by decide)), M3.out, L3.out, H3.out, Z3.out, B3.out⟩
          case measure => simp [intOf]
    · have EE := hide (E2.out rfl)
      clear E0 E1 E2 E3
      obtain ⟨u1, hu1, hbu, qu⟩ := enter1 wr (.cells #[.bool b4, .slice a4 n4 k4, .int .i64 ex4] 31)
      have CS := block_upW HB.out HG.out
      have c0 : wr.cell? ⟨gs, 6, none⟩ = some (.bool b4) := by simp [World.cell?, CS]
      have c1 : wr.cell? ⟨gs, 7, none⟩ = some (.slice a4 n4 k4) := by simp [World.cell?, CS]
      have c2 : wr.cell? ⟨gs, 8, none⟩ = some (.int .i64 ex4) := by simp [World.cell?, CS]
      have hbu1 := bl_trans8 HB.out hbu
      have C := slessN b4 a4 n4 k4 ex4 p pa pn pk pe L V4 VL u1 (HX4.out.below hbu1) (HLo.out.below hbu) LL.out
      have M1 := hide (block_upW hbu HM.out)
      have Z1 := hide (block_upW hbu HZ.out)
      have D1x := hide qu
      have L1 := hide (HLo.out.below hbu)
      have H1 := hide (HHi.out.below hbu)
      have B1 := hide hbu1
      obtain ⟨m0, m1, m2, m3, m4, m5⟩ := hexa M1.out
      obtain ⟨d0, d1, d2⟩ := tri8 D1x.out
      obtain ⟨D1, hD1⟩ : ∃ D, decide (V4 < VL) = D := ⟨_, rfl⟩
      rw [hD1] at C
      have ED1 := hide hD1
      clear CS hbu hbu1 qu hD1 HM HZ HLo HHi HB
      cases D1
      · skip
        go_wp2_with fail
        refine C.mono ?_
        rintro e t2 ⟨rfl, g2⟩
        clear C m0 m1 m2 m3 m4 m5 d0 d1 d2 c0 c1 c2 hu1
        have M2 := hide (block_upW g2 M1.out)
        have Z2 := hide (block_upW g2 Z1.out)
        have D2x := hide (block_upW g2 D1x.out)
        have L2 := hide (L1.out.below g2)
        have H2 := hide (H1.out.below g2)
        have B2 := hide (bl_trans8 B1.out g2)
        clear g2
        have C := slessN q qa qn qk qe b4 a4 n4 k4 ex4 L VH V4 t2 H2.out (HX4.out.below B2.out) LL.out
        obtain ⟨D2, hD2⟩ : ∃ D, decide (VH < V4) = D := ⟨_, rfl⟩
        rw [hD2] at C
        have ED2 := hide hD2
        clear hD2
        obtain ⟨m0, m1, m2, m3, m4, m5⟩ := hexa M2.out
        obtain ⟨d0, d1, d2⟩ := tri8 D2x.out
        cases D2
        · skip
          go_wp2_with fail
          refine C.mono ?_
          rintro e t3 ⟨rfl, g3⟩
          clear C m0 m1 m2 m3 m4 m5 d0 d1 d2
          have M3 := hide (block_upW g3 M2.out)
          have Z3 := hide (block_upW g3 Z2.out)
          have L3 := hide (L2.out.below g3)
          have H3 := hide (H2.out.below g3)
          have B3 := hide (bl_trans8 B2.out g3)
          clear g3
          go_wp2
          go_roundw
          case rel => exact ⟨3, p, pa, pn, pk, pe, q, qa, qn, qk, qe, _, _, by omega, by go_num, (fun h => absurd h (by decide)), (fun h => absurd h (by decide)), (fun h => absurd h (by decide)), (fun _ => ⟨(by have g := of_decide_eq_false ED1.out; have e := EE.out.1; omega), (by have g := of_decide_eq_false ED2.out; have e := EE.out.2; omega)⟩), M3.out, L3.out, H3.out, Z3.out, B3.out⟩
          case measure => simp [intOf]
        · skip
          go_wp2_with fail
          refine C.mono ?_
          rintro e t3 ⟨rfl, g3⟩
          clear C m0 m1 m2 m3 m4 m5 d0 d1 d2
          obtain ⟨W4, hW4, n4', o4, l4, s4⟩ := hi3 (block_upW g3 M2.out) b4 a4 n4 k4 ex4
          obtain ⟨m0, m1, m2, m3, m4, m5⟩ := hexa (block_upW g3 M2.out)
          have hf1 := hexaf (block_upW g3 M2.out)
          obtain ⟨d0, d1, d2⟩ := tri8 (block_upW g3 D2x.out)
          have M3 := hide n4'
          have Z3 := hide (o4 _ _ HNE.out (block_upW g3 Z2.out))
          have L3 := hide (s4 _ _ _ _ _ _ _ (L2.out.below g3))
          have H3 := hide (s4 _ _ _ _ _ _ _ ((HX4.out.below (bl_trans8 B2.out g3))))
          have B3 := hide (l4 _ _ (bl_trans8 B2.out g3) HGE.out)
          clear g3 n4' o4 l4 s4
          go_wp2
          clear hW4 m0 m1 m2 m3 m4 m5 d0 d1 d2 hf1
          go_roundw
          case rel => exact ⟨3, p, pa, pn, pk, pe, b4, a4, n4, k4, ex4, _, _, by omega, by go_num, (fun h => absurd h (by decide)), (fun h => absurd h (by decide)), (fun h => absurd h (by decide)), (fun _ => ⟨(by have g := of_decide_eq_false ED1.out; have e := EE.out.1; omega), (by have g := of_decide_eq_true ED2.out; have e := EE.out.2; omega)⟩), M3.out, L3.out, H3.out, Z3.out, B3.out⟩
          case measure => simp [intOf]
      · skip
        go_wp2_with fail
        refine C.mono ?_
        rintro e t2 ⟨rfl, g2⟩
        clear C m0 m1 m2 m3 m4 m5 d0 d1 d2 c0 c1 c2 hu1
        obtain ⟨W2, hW2, n2', o2, l2, s2⟩ := lo3 (block_upW g2 M1.out) b4 a4 n4 k4 ex4
        obtain ⟨m0, m1, m2, m3, m4, m5⟩ := hexa (block_upW g2 M1.out)
        have hf1 := hexaf (block_upW g2 M1.out)
        obtain ⟨d0, d1, d2⟩ := tri8 (block_upW g2 D1x.out)
        have M2 := hide n2'
        have Z2 := hide (o2 _ _ HNE.out (block_upW g2 Z1.out))
        have D2x := hide (o2 _ _ (by have h1 := lt_of_block M1.out; have h2 := lt_of_block D1x.out; have h3 := HOLD.out; omega) (block_upW g2 D1x.out))
        have L2 := hide (s2 _ _ _ _ _ _ _ (HX4.out.below (bl_trans8 B1.out g2)))
        have H2 := hide (s2 _ _ _ _ _ _ _ (H1.out.below g2))
        have B2 := hide (l2 _ _ (bl_trans8 B1.out g2) HGE.out)
        clear g2 n2' o2 l2 s2
        go_upto_region 7 with fail
        clear hW2 m0 m1 m2 m3 m4 m5 d0 d1 d2 hf1
        have C := slessN q qa qn qk qe b4 a4 n4 k4 ex4 L VH V4 W2 H2.out (HX4.out.below B2.out) LL.out
        obtain ⟨D2, hD2⟩ : ∃ D, decide (VH < V4) = D := ⟨_, rfl⟩
        rw [hD2] at C
        have ED2 := hide hD2
        clear hD2
        obtain ⟨m0, m1, m2, m3, m4, m5⟩ := hexa M2.out
        obtain ⟨d0, d1, d2⟩ := tri8 D2x.out
        cases D2
        · skip
          go_wp2_with fail
          refine C.mono ?_
          rintro e t3 ⟨rfl, g3⟩
          clear C m0 m1 m2 m3 m4 m5 d0 d1 d2
          have M3 := hide (block_upW g3 M2.out)
          have Z3 := hide (block_upW g3 Z2.out)
          have L3 := hide (L2.out.below g3)
          have H3 := hide (H2.out.below g3)
          have B3 := hide (bl_trans8 B2.out g3)
          clear g3
          go_wp2
          go_roundw
          case rel => exact ⟨3, b4, a4, n4, k4, ex4, q, qa, qn, qk, qe, _, _, by omega, by go_num, (fun h => absurd h (by decide)), (fun h => absurd h (by decide)), (fun h => absurd h (by decide)), (fun _ => ⟨(by have g := of_decide_eq_true ED1.out; have e := EE.out.1; omega), (by have g := of_decide_eq_false ED2.out; have e := EE.out.2; omega)⟩), M3.out, L3.out, H3.out, Z3.out, B3.out⟩
          case measure => simp [intOf]
        · skip
          go_wp2_with fail
          refine C.mono ?_
          rintro e t3 ⟨rfl, g3⟩
          clear C m0 m1 m2 m3 m4 m5 d0 d1 d2
          obtain ⟨W4, hW4, n4', o4, l4, s4⟩ := hi3 (block_upW g3 M2.out) b4 a4 n4 k4 ex4
          obtain ⟨m0, m1, m2, m3, m4, m5⟩ := hexa (block_upW g3 M2.out)
          have hf1 := hexaf (block_upW g3 M2.out)
          obtain ⟨d0, d1, d2⟩ := tri8 (block_upW g3 D2x.out)
          have M3 := hide n4'
          have Z3 := hide (o4 _ _ HNE.out (block_upW g3 Z2.out))
          have L3 := hide (s4 _ _ _ _ _ _ _ (L2.out.below g3))
          have H3 := hide (s4 _ _ _ _ _ _ _ ((HX4.out.below (bl_trans8 B2.out g3))))
          have B3 := hide (l4 _ _ (bl_trans8 B2.out g3) HGE.out)
          clear g3 n4' o4 l4 s4
          go_wp2
          clear hW4 m0 m1 m2 m3 m4 m5 d0 d1 d2 hf1
          go_roundw
          case rel => exact ⟨3, b4, a4, n4, k4, ex4, b4, a4, n4, k4, ex4, _, _, by omega, by go_num, (fun h => absurd h (by decide)), (fun h => absurd h (by decide)), (fun h => absurd h (by decide)), (fun _ => ⟨(by have g := of_decide_eq_true ED1.out; have e := EE.out.1; omega), (by have g := of_decide_eq_true ED2.out; have e := EE.out.2; omega)⟩), M3.out, L3.out, H3.out, Z3.out, B3.out⟩
          case measure => simp [intOf]
    · have EE := hide (E3.out rfl)
      clear E0 E1 E2 E3
      obtain ⟨m0, m1, m2, m3, m4, m5⟩ := hexa HM.out
      obtain ⟨z0, z1, z2, z3, z4, z5⟩ := hexa HZ.out
      have zf := hexaf HZ.out
      go_wp2
      have T3 := hexa_all HZ.out (.bool p) (.slice pa pn pk) (.int .i64 pe) (.bool q) (.slice qa qn qk) (.int .i64 qe)
      have T4 := below_hexa HB.out (show w.heap.size ≤ w.heap.size + 1 by omega) (.bool p) (.slice pa pn pk) (.int .i64 pe) (.bool q) (.slice qa qn qk) (.int .i64 qe)
      have T5 := HLo.out.hexa HZ.out p pa pn pk pe q qa qn qk qe
      have T6 := HHi.out.hexa HZ.out p pa pn pk pe q qa qn qk qe
      obtain ⟨p0, p1, p2, p3, p4, p5⟩ := hexa T3
      have HE := hide (And.intro T5 (And.intro T6 T4))
      clear T3 T4 T5 T6
      generalize (((((wr.setCell ⟨w.heap.size + 1, 0, none⟩ (.bool p)).setCell ⟨w.heap.size + 1, 1, none⟩ (.slice pa pn pk)).setCell ⟨w.heap.size + 1, 2, none⟩ (.int .i64 pe)).setCell ⟨w.heap.size + 1, 3, none⟩ (.bool q)).setCell ⟨w.heap.size + 1, 4, none⟩ (.slice qa qn qk)).setCell ⟨w.heap.size + 1, 5, none⟩ (.int .i64 qe) = w5 at *
      refine bodyPost_ret (v := .agg #[.bool p, .slice pa pn pk, .int .i64 pe, .bool q, .slice qa qn qk, .int .i64 qe]) (by simp [results, Tryz.results56, go_sem, p0, p1, p2, p3, p4, p5]) rfl ?_
      have x1 := HE.out.1
      have x2 := HE.out.2.1
      rw [EE.out.1] at x1
      rw [EE.out.2] at x2
      exact ⟨⟨_, _, _, _, _, _, _, _, _, _, rfl, x1, x2⟩, HE.out.2.2⟩

end Go.Proofs.YtppkhhbhnhijpaaGreatDoor
