/- What the laws of spans use: worst, dyad, lent. -/
import Derived.Test.YtppkhhbhnhijpaaGreatDoorQ0
import Derived.Test.YtppkhhbhnhijpaaGreatDoorDyKZ
import Derived.Test.YtppkhhbhnhijpaaGreatDoorQ9
import Derived.Test.YtppkhhbhnhijpaaGreatDoorQH
import Derived.Deep.RegionHeld3
import Derived.Test.YtppkhhbhnhijpaaGreatDoorDyRk2Z
import Derived.Test.YtppkhhbhnhijpaaGreatDoorDyCmZ
import Derived.Deep.CutBlock
import Derived.Deep.DeepCutAuto
namespace Go.Proofs.YtppkhhbhnhijpaaGreatDoor
open Go.RowKit
open Lm
attribute [local go_sem ↓] Go.wp_at_zero Go.wp_at_succ

/-- A code of a dyadic's. -/
def IsCode (c : Int) : Prop := c = 0 ∨ c = 3 ∨ c = 80

theorem isCode (M E : Int) : IsCode (dcode M E) := by
  unfold dcode IsCode
  split
  · exact .inr (.inl rfl)
  · split
    · exact .inl rfl
    · exact .inr (.inr rfl)

set_option maxRecDepth 20000 in
theorem worst10_any (c1 c2 : Int) (w : World) (h1 : IsCode c1) (h2 : IsCode c2) :
    Calls Tryz.prog 82 #[.int .i64 c1, .int .i64 c2] w fun e w' => e = .returned (.int .i64 (refC c1 c2)) ∧ w' = w := by
  rcases h1 with rfl | rfl | rfl <;> rcases h2 with rfl | rfl | rfl <;>
    (go_enter Tryz.func82, Tryz.ntmps82
     go_wp2
     go_ret
     exact ⟨rfl, rfl⟩)

set_option maxRecDepth 20000 in
set_option maxHeartbeats 1000000 in
theorem lent10_any (b : Bool) (a : Option Addr) (c : Nat) (X : List Nat) (ex : Int) (w : World) (hA : Arg w (.slice a X.length c) X) (hf : X.length ≤ 35184372088000) :
    Calls Tryz.prog 26 #[.agg #[.bool b, .slice a X.length c, .int .i64 ex]] w fun e w' => (∃ aw mw nw a' c', e = .returned (.tuple #[.slice aw mw nw, .agg #[.bool b, .slice a' X.length c', .int .i64 ex]]) ∧ Lent w' (.slice aw mw nw) X ∧ Arg w' (.slice a' X.length c') X) ∧ Below w.heap.size w w' := by
  obtain ⟨w0, hw0, hb0, h0, hx0⟩ := enter2 w (.cells #[.bool b, .slice a X.length c, .int .i64 ex] 24) (.cells #[.bool false, .slice none 0 0, .int .i64 0] 31)
  obtain ⟨k0, k1, k2⟩ := tri8 h0
  have HM := lend_ok _ X w0 (hA.below hb0) hf
  have HB0 := hide hb0
  have HX0 := hide hx0
  have HK0 := hide h0
  clear hA hb0 h0 hx0
  go_enter Tryz.func26, Tryz.ntmps26
  go_wp2_with fail
  refine HM.mono ?_
  rintro e w1 ⟨⟨vw, vp, rfl, hL, hP⟩, hb1⟩
  obtain ⟨gw, rfl, hgw⟩ := hL
  obtain ⟨a1, n1, rfl, _, _, _⟩ := hP.form
  have hbx := block_upW hb1 HX0.out
  have hf1 := tri8f hbx
  obtain ⟨l0, l1, l2⟩ := tri8 hbx
  obtain ⟨j0, j1, j2⟩ := tri8 (block_upW hb1 HK0.out)
  have HBX := hide hbx
  have HBE := hide (HB0.out.trans (hb1.mono HB0.out.size))
  have HP := hide hP
  have HG := hide hgw
  clear hbx hb1 HM hw0 k0 k1 k2 hP hgw
  go_wp2
  go_region
  have R5 := tri8_all HBX.out (.bool b) (.slice a1 X.length n1) (.int .i64 ex)
  have HD := hide (And.intro (HP.out.tri8 HBX.out b a1 X.length n1 (.int .i64 ex)) (below_tri8 HBE.out (show w.heap.size ≤ w.heap.size + 1 by omega) (.bool b) (.slice a1 X.length n1) (.int .i64 ex)))
  have hgl : gw ≠ w.heap.size + 1 := by
    rintro rfl
    have h := HG.out
    unfold Blk at h
    rw [HBX.out] at h
    simp at h
  have HLT : Hid (Blk (((w1.setCell ⟨w.heap.size + 1, 0, none⟩ (.bool b)).setCell ⟨w.heap.size + 1, 1, none⟩ (.slice a1 X.length n1)).setCell ⟨w.heap.size + 1, 2, none⟩ (.int .i64 ex)) gw (lent X)) := hide (by
    have h := HG.out
    unfold Blk at h ⊢
    rw [Below.heap_setCell _ _ _ _ hgl, Below.heap_setCell _ _ _ _ hgl, Below.heap_setCell _ _ _ _ hgl]
    exact h)
  generalize ((w1.setCell ⟨w.heap.size + 1, 0, none⟩ (.bool b)).setCell ⟨w.heap.size + 1, 1, none⟩ (.slice a1 X.length n1)).setCell ⟨w.heap.size + 1, 2, none⟩ (.int .i64 ex) = w5 at *
  obtain ⟨q0, q1, q2⟩ := tri8 (show w5.drew.heap[w.heap.size + 1]? = _ from R5)
  go_wp2
  refine bodyPost_ret (v := .tuple #[.slice (some ⟨gw, 0, none⟩) (X.length + 4) (X.length + 4), .agg #[.bool b, .slice a1 X.length n1, .int .i64 ex]]) (by simp [results, Tryz.results26, go_sem, q0, q1, q2]) rfl ?_
  exact ⟨⟨_, _, _, _, _, rfl, ⟨gw, rfl, HLT.out⟩, HD.out.1.below (Below.refl _ _).drew⟩, HD.out.2.drew⟩

set_option maxRecDepth 20000 in
set_option maxHeartbeats 2000000 in
theorem dyad10_any (b : Bool) (a : Option Addr) (c : Nat) (X : List Nat) (ex : Int) (w : World) (hA : Arg w (.slice a X.length c) X) (hf : X.length ≤ 17592186043904) (hE : fitE ex = true) :
    Calls Tryz.prog 12 #[.agg #[.bool b, .slice a X.length c, .int .i64 ex]] w fun e w' => (∃ b' a' n' c', e = .returned (.agg #[.bool b', .slice a' n' c', .int .i64 (oe (zz b (val X)) ex)]) ∧ Dn w' b' (.slice a' n' c') (omz (zz b (val X)))) ∧ Below w.heap.size w w' := by
  obtain ⟨w0, hw0, hb0, h0, h1⟩ := enter2 w (.cells #[.bool b, .slice a X.length c, .int .i64 ex] 24) (.cells #[.bool false, .slice none 0 0, .int .i64 0] 45)
  obtain ⟨k0, k1, k2⟩ := tri8 h0
  have hEr := (fitE_iff ex).1 hE
  have gd : Below w.heap.size w w0.drew := hb0.drew
  have g0 : Below w0.drew.heap.size w0.drew w0.drew := Below.refl _ _
  have HO := rzof_any b _ X w0.drew (hA.below gd) (by omega)
  have hbl : blen (zz b (val X)).natAbs ≤ 1125899906840000 := by
    rw [zz_abs]; have := blen_len8 hA.limbs; omega
  have HD := hide (fun (W : World) (b1 : Bool) (a1 : Option Addr) (n1 c1 : Nat) (hz : Zn W (.agg #[.bool b1, .slice a1 n1 c1]) (zz b (val X))) => rdOf_any b1 a1 n1 c1 (zz b (val X)) ex W hz hbl (by omega) (by omega))
  have KS := hide (fun (W : World) (hg : Below w0.drew.heap.size w0.drew W) => show W.cell? ⟨w.heap.size, 0, none⟩ = some (.bool b) ∧ W.cell? ⟨w.heap.size, 1, none⟩ = some (.slice a X.length c) ∧ W.cell? ⟨w.heap.size, 2, none⟩ = some (.int .i64 ex) from tri8 (block_upW hg (show w0.drew.heap[w.heap.size]? = some (.cells #[.bool b, .slice a X.length c, .int .i64 ex] 24) from h0)))
  have so : ∀ (W : World) (k : Nat) (u : Value) (k' : Nat), (W.setCell ⟨w.heap.size + 1, k, none⟩ u).cell? ⟨w.heap.size, k', none⟩ = W.cell? ⟨w.heap.size, k', none⟩ := fun W k u k' => cell_other8 (by omega)
  have H1 := hide (show w0.drew.heap[w.heap.size + 1]? = some (.cells #[.bool false, .slice none 0 0, .int .i64 0] 45) from h1)
  have HB := hide gd
  clear h0 h1 hb0 gd hE hA hbl
  generalize omz (zz b (val X)) = M at *
  generalize oe (zz b (val X)) ex = E at *
  generalize zz b (val X) = z at *
  go_enter Tryz.func12, Tryz.ntmps12
  go_wp2
  go_region_held3 (fun w' => w'.cell? ⟨w.heap.size, 0, none⟩ = some (.bool b) ∧ w'.cell? ⟨w.heap.size, 1, none⟩ = some (.slice a X.length c) ∧ w'.cell? ⟨w.heap.size, 2, none⟩ = some (.int .i64 ex)) (first | with_reducible exact KS.out _ g2 | with_reducible exact KS.out _ g1 | with_reducible exact KS.out _ g0 | (refine ⟨?_, ?_, ?_⟩ <;> (rw [so, so, so]; first | exact (KS.out _ g2).1 | exact (KS.out _ g2).2.1 | exact (KS.out _ g2).2.2))) (first
    | (go_at_call 49; refine HO.mono ?_; rintro e' t1 ⟨⟨b1, a1, n1, c1, rfl, z1⟩, g1⟩)
    | (go_at_call 48; refine (HD.out t1 b1 a1 n1 c1 z1).mono ?_; rintro e' t2 ⟨⟨b2, a2, n2, c2, rfl, d2⟩, hb2⟩; have g2 := bl_trans8 g1 hb2; have hz := block_upW g2 H1.out; have hf := tri8f hz; obtain ⟨m0, m1, m2⟩ := tri8 hz))
  have T3 := tri8_all hz (.bool b2) (.slice a2 n2 c2) (.int .i64 E)
  have T4 := below_tri8 (bl_trans8 HB.out g2) (show w.heap.size ≤ w.heap.size + 1 by omega) (.bool b2) (.slice a2 n2 c2) (.int .i64 E)
  have T5 := d2.tri8 hz b2 a2 n2 c2 (.int .i64 E)
  obtain ⟨p0, p1, p2⟩ := tri8 T3
  have HE := hide (And.intro T5 T4)
  clear T3 T4 T5 so m0 m1 m2 hf KS g0 g1 g2 hb2 HO hz d2 z1 HD k0 k1 k2
  generalize ((t2.setCell ⟨w.heap.size + 1, 0, none⟩ (.bool b2)).setCell ⟨w.heap.size + 1, 1, none⟩ (.slice a2 n2 c2)).setCell ⟨w.heap.size + 1, 2, none⟩ (.int .i64 E) = w5 at *
  go_wp2
  refine bodyPost_ret (v := .agg #[.bool b2, .slice a2 n2 c2, .int .i64 E]) (by simp [results, Tryz.results12, go_sem, p0, p1, p2]) rfl ?_
  exact ⟨⟨_, _, _, _, rfl, HE.out.1⟩, HE.out.2⟩

end Go.Proofs.YtppkhhbhnhijpaaGreatDoor

/- What the laws of spans use: lend, kept. -/
namespace Go.Proofs.YtppkhhbhnhijpaaGreatDoor
open Go.RowKit
open Lm
attribute [local go_sem ↓] Go.wp_at_zero Go.wp_at_succ

theorem octa {w : World} {g : Nat} {a b c d e f x y : Value} {t : TypeId} (h : w.heap[g]? = some (.cells #[a, b, c, d, e, f, x, y] t)) : w.cell? ⟨g, 0, none⟩ = some a ∧ w.cell? ⟨g, 1, none⟩ = some b ∧ w.cell? ⟨g, 2, none⟩ = some c ∧ w.cell? ⟨g, 3, none⟩ = some d ∧ w.cell? ⟨g, 4, none⟩ = some e ∧ w.cell? ⟨g, 5, none⟩ = some f ∧ w.cell? ⟨g, 6, none⟩ = some x ∧ w.cell? ⟨g, 7, none⟩ = some y := by
  simp [World.cell?, h]

theorem octaf {w : World} {g : Nat} {a b c d e f x y : Value} {t : TypeId} (h : w.heap[g]? = some (.cells #[a, b, c, d, e, f, x, y] t)) : ∀ k, w.frozen? ⟨g, k, none⟩ = false := fun k => by simp [World.frozen?, h]

/-- Eight cells written. -/
def set8 (w : World) (g : Nat) (u0 u1 u2 u3 u4 u5 u6 u7 : Value) : World :=
  (((((((w.setCell ⟨g, 0, none⟩ u0).setCell ⟨g, 1, none⟩ u1).setCell ⟨g, 2, none⟩ u2).setCell ⟨g, 3, none⟩ u3).setCell ⟨g, 4, none⟩ u4).setCell ⟨g, 5, none⟩ u5).setCell ⟨g, 6, none⟩ u6).setCell ⟨g, 7, none⟩ u7

theorem octa_all {w : World} {g : Nat} {a b c d e f x y : Value} {t : TypeId} (h : w.heap[g]? = some (.cells #[a, b, c, d, e, f, x, y] t)) (u0 u1 u2 u3 u4 u5 u6 u7 : Value) : (set8 w g u0 u1 u2 u3 u4 u5 u6 u7).heap[g]? = some (.cells #[u0, u1, u2, u3, u4, u5, u6, u7] t) := by
  have l0 : (w.setCell ⟨g, 0, none⟩ u0).heap[g]? = some (.cells #[u0, b, c, d, e, f, x, y] t) := box_modify (k := 0) h u0
  have l1 : ((w.setCell ⟨g, 0, none⟩ u0).setCell ⟨g, 1, none⟩ u1).heap[g]? = some (.cells #[u0, u1, c, d, e, f, x, y] t) := box_modify (k := 1) l0 u1
  have l2 : (((w.setCell ⟨g, 0, none⟩ u0).setCell ⟨g, 1, none⟩ u1).setCell ⟨g, 2, none⟩ u2).heap[g]? = some (.cells #[u0, u1, u2, d, e, f, x, y] t) := box_modify (k := 2) l1 u2
  have l3 : ((((w.setCell ⟨g, 0, none⟩ u0).setCell ⟨g, 1, none⟩ u1).setCell ⟨g, 2, none⟩ u2).setCell ⟨g, 3, none⟩ u3).heap[g]? = some (.cells #[u0, u1, u2, u3, e, f, x, y] t) := box_modify (k := 3) l2 u3
  have l4 : (((((w.setCell ⟨g, 0, none⟩ u0).setCell ⟨g, 1, none⟩ u1).setCell ⟨g, 2, none⟩ u2).setCell ⟨g, 3, none⟩ u3).setCell ⟨g, 4, none⟩ u4).heap[g]? = some (.cells #[u0, u1, u2, u3, u4, f, x, y] t) := box_modify (k := 4) l3 u4
  have l5 : ((((((w.setCell ⟨g, 0, none⟩ u0).setCell ⟨g, 1, none⟩ u1).setCell ⟨g, 2, none⟩ u2).setCell ⟨g, 3, none⟩ u3).setCell ⟨g, 4, none⟩ u4).setCell ⟨g, 5, none⟩ u5).heap[g]? = some (.cells #[u0, u1, u2, u3, u4, u5, x, y] t) := box_modify (k := 5) l4 u5
  have l6 : (((((((w.setCell ⟨g, 0, none⟩ u0).setCell ⟨g, 1, none⟩ u1).setCell ⟨g, 2, none⟩ u2).setCell ⟨g, 3, none⟩ u3).setCell ⟨g, 4, none⟩ u4).setCell ⟨g, 5, none⟩ u5).setCell ⟨g, 6, none⟩ u6).heap[g]? = some (.cells #[u0, u1, u2, u3, u4, u5, u6, y] t) := box_modify (k := 6) l5 u6
  have l7 : ((((((((w.setCell ⟨g, 0, none⟩ u0).setCell ⟨g, 1, none⟩ u1).setCell ⟨g, 2, none⟩ u2).setCell ⟨g, 3, none⟩ u3).setCell ⟨g, 4, none⟩ u4).setCell ⟨g, 5, none⟩ u5).setCell ⟨g, 6, none⟩ u6).setCell ⟨g, 7, none⟩ u7).heap[g]? = some (.cells #[u0, u1, u2, u3, u4, u5, u6, u7] t) := box_modify (k := 7) l6 u7
  exact l7

theorem below_octa {B : Nat} {w0 w : World} {g : Nat} (h : Below B w0 w) (hg : B ≤ g) (u0 u1 u2 u3 u4 u5 u6 u7 : Value) : Below B w0 (set8 w g u0 u1 u2 u3 u4 u5 u6 u7) :=
  (((((((h.setCell (p := ⟨g, 0, none⟩) hg u0).setCell (p := ⟨g, 1, none⟩) hg u1).setCell (p := ⟨g, 2, none⟩) hg u2).setCell (p := ⟨g, 3, none⟩) hg u3).setCell (p := ⟨g, 4, none⟩) hg u4).setCell (p := ⟨g, 5, none⟩) hg u5).setCell (p := ⟨g, 6, none⟩) hg u6).setCell (p := ⟨g, 7, none⟩) hg u7

/-- A block other than the one that is written. -/
theorem octa_other {w : World} {g h : Nat} (hn : h ≠ g) (u0 u1 u2 u3 u4 u5 u6 u7 : Value) : (set8 w g u0 u1 u2 u3 u4 u5 u6 u7).heap[h]? = w.heap[h]? := by
  unfold set8
  rw [Below.heap_setCell _ _ _ _ hn, Below.heap_setCell _ _ _ _ hn, Below.heap_setCell _ _ _ _ hn, Below.heap_setCell _ _ _ _ hn, Below.heap_setCell _ _ _ _ hn, Below.heap_setCell _ _ _ _ hn, Below.heap_setCell _ _ _ _ hn, Below.heap_setCell _ _ _ _ hn]

theorem Lies.octa {w : World} {ao : Option Addr} {zs : List Nat} {g : Nat} {a1 a2 a3 a4 : Option Addr} {n1 n2 n3 n4 c1 c2 c3 c4 : Nat} {p q : Bool} {e1 e2 : Int} {t : TypeId} (h : Lies w ao zs) (hl : w.heap[g]? = some (.cells #[.slice a1 n1 c1, .slice a2 n2 c2, .bool p, .slice a3 n3 c3, .int .i64 e1, .bool q, .slice a4 n4 c4, .int .i64 e2] t)) (u0 u1 u2 u3 u4 u5 u6 u7 : Value) : Lies (set8 w g u0 u1 u2 u3 u4 u5 u6 u7) ao zs := by
  rcases h with h | ⟨b, off, rfl, hc⟩
  · exact .inl h
  · rcases Nat.eq_zero_or_pos zs.length with h0 | h0
    · exact .inl (List.eq_nil_of_length_eq_zero h0)
    · have hn : b ≠ g := by
        rintro rfl
        have h1 := hc 0 h0
        rw [Nat.add_zero] at h1
        simp only [World.cell?, hl] at h1
        match off, h1 with
        | 0, h1 => simp at h1
        | 1, h1 => simp at h1
        | 2, h1 => simp at h1
        | 3, h1 => simp at h1
        | 4, h1 => simp at h1
        | 5, h1 => simp at h1
        | 6, h1 => simp at h1
        | 7, h1 => simp at h1
        | k + 8, h1 => simp at h1
      refine .inr ⟨b, off, rfl, fun k hk => ?_⟩
      have h2 := hc k hk
      simp only [World.cell?] at h2 ⊢
      rw [octa_other hn]
      exact h2

theorem Arg.octa {w : World} {v : Value} {zs : List Nat} {g : Nat} {a1 a2 a3 a4 : Option Addr} {n1 n2 n3 n4 c1 c2 c3 c4 : Nat} {p q : Bool} {e1 e2 : Int} {t : TypeId} (h : Arg w v zs) (hl : w.heap[g]? = some (.cells #[.slice a1 n1 c1, .slice a2 n2 c2, .bool p, .slice a3 n3 c3, .int .i64 e1, .bool q, .slice a4 n4 c4, .int .i64 e2] t)) (u0 u1 u2 u3 u4 u5 u6 u7 : Value) : Arg (set8 w g u0 u1 u2 u3 u4 u5 u6 u7) v zs := by
  obtain ⟨ao, cap, h1, h2, h3, h4⟩ := h.form
  exact ⟨⟨ao, cap, h1, h2, h3, h4.octa hl u0 u1 u2 u3 u4 u5 u6 u7⟩, h.limbs, h.few, h.nz⟩

theorem Lent.octa {w : World} {v : Value} {zs : List Nat} {g : Nat} {b c d e f x y : Value} {a1 : Option Addr} {n1 c1 : Nat} {t : TypeId} (h : Lent w v zs) (hl : w.heap[g]? = some (.cells #[.slice a1 n1 c1, b, c, d, e, f, x, y] t)) (u0 u1 u2 u3 u4 u5 u6 u7 : Value) : Lent (set8 w g u0 u1 u2 u3 u4 u5 u6 u7) v zs := by
  obtain ⟨k, h1, h2⟩ := h
  refine ⟨k, h1, ?_⟩
  unfold Blk at h2 ⊢
  rw [octa_other]
  · exact h2
  · rintro rfl
    rw [hl] at h2
    have h3 := congrArg (fun o : Option Obj => match o with | some (.cells cs _) => cs[0]? | _ => none) h2
    simp [lent, lv] at h3

set_option maxRecDepth 20000 in
set_option maxHeartbeats 2000000 in
theorem lend10_any (b1 : Bool) (a1 : Option Addr) (k1 : Nat) (X : List Nat) (ex1 : Int) (b2 : Bool) (a2 : Option Addr) (k2 : Nat) (Y : List Nat) (ex2 : Int) (w : World) (hA : Arg w (.slice a1 X.length k1) X) (hB : Arg w (.slice a2 Y.length k2) Y) (f1 : X.length ≤ 35184372088000) (f2 : Y.length ≤ 35184372088000) :
    Calls Tryz.prog 7 #[.agg #[.bool b1, .slice a1 X.length k1, .int .i64 ex1, .bool b2, .slice a2 Y.length k2, .int .i64 ex2]] w fun e w' => (∃ au mu nu av mv nv a' c' a'' c'', e = .returned (.agg #[.slice au mu nu, .slice av mv nv, .bool b1, .slice a' X.length c', .int .i64 ex1, .bool b2, .slice a'' Y.length c'', .int .i64 ex2]) ∧ Lent w' (.slice au mu nu) X ∧ Lent w' (.slice av mv nv) Y ∧ Arg w' (.slice a' X.length c') X ∧ Arg w' (.slice a'' Y.length c'') Y) ∧ Below w.heap.size w w' := by
  obtain ⟨w0, hw0, hb0, q0, q9⟩ := enter2 w (.cells #[.bool b1, .slice a1 X.length k1, .int .i64 ex1, .bool b2, .slice a2 Y.length k2, .int .i64 ex2] 26) (.cells #[.slice none 0 0, .slice none 0 0, .bool false, .slice none 0 0, .int .i64 0, .bool false, .slice none 0 0, .int .i64 0] 35)
  obtain ⟨y0, y1, y2, y3, y4, y5⟩ := hexa q0
  have HU0 := hide hb0
  have HQ0 := hide q0
  have HR0 := hide q9
  have C1 := hide (fun (W : World) (hg : Below w.heap.size w W) => lent10_any b1 a1 k1 X ex1 W (hA.below hg) f1)
  have C2 := hide (fun (W : World) (hg : Below w.heap.size w W) => lent10_any b2 a2 k2 Y ex2 W (hB.below hg) f2)
  clear q0 q9 hb0 hA hB
  go_enter Tryz.func7, Tryz.ntmps7
  go_wp2_with fail
  refine (C1.out w0 HU0.out).mono ?_
  rintro e t1 ⟨⟨au, mu, nu, a3, c3, rfl, hl1, hx1⟩, g1⟩
  obtain ⟨w2, hw2, hb2, q2⟩ := enter1 t1 (.cells #[.bool b1, .slice a3 X.length c3, .int .i64 ex1] 31)
  have s2 := bl_trans8 g1 hb2
  have HU2 := hide (bl_trans8 HU0.out s2)
  have HX2 := hide q2
  have HL1 := hide (And.intro (hl1.below hb2) (hx1.below hb2))
  have HQ1 := hide (block_upW s2 HQ0.out)
  have HR1 := hide (block_upW s2 HR0.out)
  clear g1 hl1 hx1 hb2 q2 s2 y0 y1 y2 y3 y4 y5 hw0
  obtain ⟨z0, z1, z2, z3, z4, z5⟩ := hexa HQ1.out
  go_wp2_with fail
  refine (C2.out w2 HU2.out).mono ?_
  rintro e t3 ⟨⟨av, mv, nv, a4, c4, rfl, hl2, hx2⟩, g1⟩
  obtain ⟨w4, hw4, hb4, q4⟩ := enter1 t3 (.cells #[.bool b2, .slice a4 Y.length c4, .int .i64 ex2] 31)
  have s4 := bl_trans8 g1 hb4
  have HG := hide (bl_trans8 HU2.out s4)
  have HL2 := hide (And.intro (hl2.below hb4) (hx2.below hb4))
  have HL3 := hide (And.intro (HL1.out.1.below s4) (HL1.out.2.below s4))
  have HX4 := hide (block_upW s4 HX2.out)
  have HX5 := hide q4
  have HC1 := hide (block_upW s4 HR1.out)
  clear g1 hl2 hx2 hb4 q4 s4 z0 z1 z2 z3 z4 z5 hw2 HL1
  obtain ⟨x0, x1, x2⟩ := tri8 HX4.out
  obtain ⟨x3, x4, x5⟩ := tri8 HX5.out
  have hf1 := octaf HC1.out
  obtain ⟨m0, m1, m2, m3, m4, m5, m6, m7⟩ := octa HC1.out
  go_wp2
  have T3 := octa_all HC1.out (.slice au mu nu) (.slice av mv nv) (.bool b1) (.slice a3 X.length c3) (.int .i64 ex1) (.bool b2) (.slice a4 Y.length c4) (.int .i64 ex2)
  have T4 := below_octa HG.out (show w.heap.size ≤ w.heap.size + 1 by omega) (.slice au mu nu) (.slice av mv nv) (.bool b1) (.slice a3 X.length c3) (.int .i64 ex1) (.bool b2) (.slice a4 Y.length c4) (.int .i64 ex2)
  have T5 := HL3.out.1.octa HC1.out (.slice au mu nu) (.slice av mv nv) (.bool b1) (.slice a3 X.length c3) (.int .i64 ex1) (.bool b2) (.slice a4 Y.length c4) (.int .i64 ex2)
  have T6 := HL2.out.1.octa HC1.out (.slice au mu nu) (.slice av mv nv) (.bool b1) (.slice a3 X.length c3) (.int .i64 ex1) (.bool b2) (.slice a4 Y.length c4) (.int .i64 ex2)
  have T7 := HL3.out.2.octa HC1.out (.slice au mu nu) (.slice av mv nv) (.bool b1) (.slice a3 X.length c3) (.int .i64 ex1) (.bool b2) (.slice a4 Y.length c4) (.int .i64 ex2)
  have T8 := HL2.out.2.octa HC1.out (.slice au mu nu) (.slice av mv nv) (.bool b1) (.slice a3 X.length c3) (.int .i64 ex1) (.bool b2) (.slice a4 Y.length c4) (.int .i64 ex2)
  unfold set8 at T3 T4 T5 T6 T7 T8
  obtain ⟨p0, p1, p2, p3, p4, p5, p6, p7⟩ := octa T3
  have HE := hide (And.intro T5 (And.intro T6 (And.intro T7 (And.intro T8 T4))))
  clear T3 T4 T5 T6 T7 T8
  generalize (((((((w4.setCell ⟨w.heap.size + 1, 0, none⟩ (.slice au mu nu)).setCell ⟨w.heap.size + 1, 1, none⟩ (.slice av mv nv)).setCell ⟨w.heap.size + 1, 2, none⟩ (.bool b1)).setCell ⟨w.heap.size + 1, 3, none⟩ (.slice a3 X.length c3)).setCell ⟨w.heap.size + 1, 4, none⟩ (.int .i64 ex1)).setCell ⟨w.heap.size + 1, 5, none⟩ (.bool b2)).setCell ⟨w.heap.size + 1, 6, none⟩ (.slice a4 Y.length c4)).setCell ⟨w.heap.size + 1, 7, none⟩ (.int .i64 ex2) = w5 at *
  refine bodyPost_ret (v := .agg #[.slice au mu nu, .slice av mv nv, .bool b1, .slice a3 X.length c3, .int .i64 ex1, .bool b2, .slice a4 Y.length c4, .int .i64 ex2]) (by simp [results, Tryz.results7, go_sem, p0, p1, p2, p3, p4, p5, p6, p7]) rfl ?_
  exact ⟨⟨_, _, _, _, _, _, _, _, _, _, rfl, HE.out.1, HE.out.2.1, HE.out.2.2.1, HE.out.2.2.2.1⟩, HE.out.2.2.2.2⟩

set_option maxRecDepth 20000 in
set_option maxHeartbeats 2000000 in
theorem kept10_any (au : Option Addr) (mu nu : Nat) (av : Option Addr) (mv nv : Nat) (p : Bool) (al : Option Addr) (nl cl : Nat) (el : Int) (q : Bool) (ar : Option Addr) (nr cr : Nat) (er : Int) (b1 : Bool) (a1 : Option Addr) (k1 : Nat) (X : List Nat) (ex1 : Int) (b2 : Bool) (a2 : Option Addr) (k2 : Nat) (Y : List Nat) (ex2 : Int) (w : World) (h1 : Lent w (.slice au mu nu) X) (h2 : Lent w (.slice av mv nv) Y) (hA : Arg w (.slice a1 X.length k1) X) (hB : Arg w (.slice a2 Y.length k2) Y) (f1 : X.length ≤ 35184372088000) (f2 : Y.length ≤ 35184372088000) :
    Calls Tryz.prog 15 #[.agg #[.slice au mu nu, .slice av mv nv, .bool p, .slice al nl cl, .int .i64 el, .bool q, .slice ar nr cr, .int .i64 er], .agg #[.bool b1, .slice a1 X.length k1, .int .i64 ex1, .bool b2, .slice a2 Y.length k2, .int .i64 ex2]] w fun e w' => e = .returned (.bool true) ∧ Below w.heap.size w w' := by
  obtain ⟨w0, hw0, hb0, q0, q9⟩ := enter2 w (.cells #[.slice au mu nu, .slice av mv nv, .bool p, .slice al nl cl, .int .i64 el, .bool q, .slice ar nr cr, .int .i64 er] 35) (.cells #[.bool b1, .slice a1 X.length k1, .int .i64 ex1, .bool b2, .slice a2 Y.length k2, .int .i64 ex2] 26)
  obtain ⟨y0, y1, y2, y3, y4, y5⟩ := hexa q9
  obtain ⟨m0, m1, m2, m3, m4, m5, m6, m7⟩ := octa q0
  have HU0 := hide hb0
  have C1 := kept_ok _ _ X w0 (h1.below hb0) (hA.below hb0) f1
  have C2 := kept_ok _ _ Y w0 (h2.below hb0) (hB.below hb0) f2
  clear q0 q9 hb0 hA hB h1 h2
  go_enter Tryz.func15, Tryz.ntmps15
  go_wp2_with fail
  refine C1.mono ?_
  rintro e wn ⟨rfl, hw⟩; rw [hw]; clear hw wn C1
  go_wp2_with fail
  refine C2.mono ?_
  rintro e wn ⟨rfl, hw⟩; rw [hw]; clear hw wn C2
  go_wp2
  go_ret
  exact ⟨rfl, HU0.out⟩

end Go.Proofs.YtppkhhbhnhijpaaGreatDoor

/- What the laws of spans use: the document's Told. -/
namespace Go.Proofs.YtppkhhbhnhijpaaGreatDoor
open Go.RowKit
open Lm
attribute [local go_sem ↓] Go.wp_at_zero Go.wp_at_succ

theorem ToldR.code {w : World} {b : Bool} {v : Value} {M E : Int} {b' : Bool} {v' : Value} {E' f : Int} (h : ToldR w b v M E b' v' E' f) : f = dcode M E := by
  unfold dcode
  rcases h with ⟨rfl, _, _, _, h1, h2, _⟩ | ⟨rfl, h1⟩ | ⟨rfl, h1, h2⟩
  · rw [if_neg (by omega), if_pos h2]
  · rw [if_pos h1]
  · rw [if_neg (by omega), if_neg (by rw [h2]; decide)]

/-- A span as the document tells it: itself, or a code. -/
def ToldS (w : World) (e : Ending) (w' : World) (b1 : Bool) (a1 : Option Addr) (n1 k1 : Nat) (E1 : Int) (b2 : Bool) (a2 : Option Addr) (n2 k2 : Nat) (E2 R : Int) : Prop :=
  (∃ p a n k x p' a' n' k' x', e = .returned (.tuple #[.agg #[.bool p, .slice a n k, .int .i64 x, .bool p', .slice a' n' k', .int .i64 x'], .int .i64 R]) ∧ (R = 0 → p = b1 ∧ a = a1 ∧ n = n1 ∧ k = k1 ∧ x = E1 ∧ p' = b2 ∧ a' = a2 ∧ n' = n2 ∧ k' = k2 ∧ x' = E2)) ∧ Below w.heap.size w w'

set_option maxRecDepth 20000 in
set_option maxHeartbeats 2000000 in
theorem told10_any (b1 : Bool) (a1 : Option Addr) (n1 k1 : Nat) (M1 E1 : Int) (b2 : Bool) (a2 : Option Addr) (n2 k2 : Nat) (M2 E2 : Int) (w : World) (h1 : Dn w b1 (.slice a1 n1 k1) M1) (h2 : Dn w b2 (.slice a2 n2 k2) M2) :
    Calls Tryz.prog 50 #[.agg #[.bool b1, .slice a1 n1 k1, .int .i64 E1, .bool b2, .slice a2 n2 k2, .int .i64 E2]] w fun e w' => ToldS w e w' b1 a1 n1 k1 E1 b2 a2 n2 k2 E2 (refC (dcode M1 E1) (dcode M2 E2)) := by
  obtain ⟨w0, hw0, hb0, q0, q9⟩ := enter2 w (.cells #[.bool b1, .slice a1 n1 k1, .int .i64 E1, .bool b2, .slice a2 n2 k2, .int .i64 E2] 47) (.cells #[.bool false, .slice none 0 0, .int .i64 0, .bool false, .slice none 0 0, .int .i64 0] 47)
  obtain ⟨y0, y1, y2, y3, y4, y5⟩ := hexa q0
  have HU0 := hide hb0
  have HQ0 := hide q0
  have HR0 := hide q9
  have C1 := hide (fun (W : World) (hg : Below w.heap.size w W) => rtold_any b1 a1 n1 k1 M1 E1 W (h1.below hg))
  have C2 := hide (fun (W : World) (hg : Below w.heap.size w W) => rtold_any b2 a2 n2 k2 M2 E2 W (h2.below hg))
  have WO := hide (fun (W : World) => worst10_any (dcode M1 E1) (dcode M2 E2) W (isCode _ _) (isCode _ _))
  obtain ⟨R, hRR⟩ : ∃ R, refC (dcode M1 E1) (dcode M2 E2) = R := ⟨_, rfl⟩
  rw [hRR] at WO ⊢
  clear q0 q9 hb0 h1 h2 hRR
  go_enter Tryz.func50, Tryz.ntmps50
  go_wp2_with fail
  refine (C1.out w0 HU0.out).mono ?_
  rintro e t1 ⟨⟨b6, a6, n6, c6, e6, d6, rfl, hg⟩, g1⟩
  have hc := hg.code
  subst hc
  obtain ⟨w2, hw2, hb2, q2⟩ := enter1 t1 (.cells #[.bool b6, .slice a6 n6 c6, .int .i64 e6] 45)
  have s2 := bl_trans8 g1 hb2
  have HU2 := hide (bl_trans8 HU0.out s2)
  have HQ1 := hide (block_upW s2 HQ0.out)
  have HR1 := hide (block_upW s2 HR0.out)
  clear g1 hg hb2 q2 s2 y0 y1 y2 y3 y4 y5 hw0
  obtain ⟨z0, z1, z2, z3, z4, z5⟩ := hexa HQ1.out
  go_wp2_with fail
  refine (C2.out w2 HU2.out).mono ?_
  rintro e t3 ⟨⟨b7, a7, n7, c7, e7, d7, rfl, hg⟩, g1⟩
  have hc := hg.code
  subst hc
  obtain ⟨w4, hw4, hb4, q4⟩ := enter1 t3 (.cells #[.bool b7, .slice a7 n7 c7, .int .i64 e7] 45)
  have s4 := bl_trans8 g1 hb4
  have HG := hide (bl_trans8 HU2.out s4)
  have HC1 := hide (block_upW s4 HR1.out)
  clear z0 z1 z2 z3 z4 z5
  obtain ⟨z0, z1, z2, z3, z4, z5⟩ := hexa (block_upW s4 HQ1.out)
  clear g1 hg hb4 q4 s4 hw2
  have W1 := WO.out w4
  have W2 := WO.out w4
  generalize dcode M1 E1 = D1 at *
  generalize dcode M2 E2 = D2 at *
  have hf1 := hexaf HC1.out
  obtain ⟨m0, m1, m2, m3, m4, m5⟩ := hexa HC1.out
  clear WO
  by_cases hR : R = 0
  · subst hR
    go_wp2_with fail
    refine W1.mono ?_
    rintro e wn ⟨rfl, hw⟩; rw [hw]; clear hw wn W1 W2
    go_wp2
    have T3 := hexa_all HC1.out (.bool b1) (.slice a1 n1 k1) (.int .i64 E1) (.bool b2) (.slice a2 n2 k2) (.int .i64 E2)
    have T4 := below_hexa HG.out (show w.heap.size ≤ w.heap.size + 1 by omega) (.bool b1) (.slice a1 n1 k1) (.int .i64 E1) (.bool b2) (.slice a2 n2 k2) (.int .i64 E2)
    obtain ⟨p0, p1, p2, p3, p4, p5⟩ := hexa T3
    have HE := hide T4
    clear T3 T4
    generalize (((((w4.setCell ⟨w.heap.size + 1, 0, none⟩ (.bool b1)).setCell ⟨w.heap.size + 1, 1, none⟩ (.slice a1 n1 k1)).setCell ⟨w.heap.size + 1, 2, none⟩ (.int .i64 E1)).setCell ⟨w.heap.size + 1, 3, none⟩ (.bool b2)).setCell ⟨w.heap.size + 1, 4, none⟩ (.slice a2 n2 k2)).setCell ⟨w.heap.size + 1, 5, none⟩ (.int .i64 E2) = w5 at *
    refine bodyPost_ret (v := .tuple #[.agg #[.bool b1, .slice a1 n1 k1, .int .i64 E1, .bool b2, .slice a2 n2 k2, .int .i64 E2], .int .i64 0]) (by simp [results, Tryz.results50, go_sem, p0, p1, p2, p3, p4, p5]) rfl ?_
    exact ⟨⟨_, _, _, _, _, _, _, _, _, _, rfl, fun _ => ⟨rfl, rfl, rfl, rfl, rfl, rfl, rfl, rfl, rfl, rfl⟩⟩, HE.out⟩
  · have i9 : (R != 0) = true := by simpa using hR
    go_wp2_with fail
    refine W1.mono ?_
    rintro e wn ⟨rfl, hw⟩; rw [hw]; clear hw wn W1
    go_wp2_with fail
    refine W2.mono ?_
    rintro e wn ⟨rfl, hw⟩; rw [hw]; clear hw wn W2
    go_wp2
    have T3 := hexa_all HC1.out (.bool false) (.slice none 0 0) (.int .i64 0) (.bool false) (.slice none 0 0) (.int .i64 0)
    have T4 := below_hexa HG.out (show w.heap.size ≤ w.heap.size + 1 by omega) (.bool false) (.slice none 0 0) (.int .i64 0) (.bool false) (.slice none 0 0) (.int .i64 0)
    obtain ⟨p0, p1, p2, p3, p4, p5⟩ := hexa T3
    have HE := hide T4
    clear T3 T4
    generalize (((((w4.setCell ⟨w.heap.size + 1, 0, none⟩ (.bool false)).setCell ⟨w.heap.size + 1, 1, none⟩ (.slice none 0 0)).setCell ⟨w.heap.size + 1, 2, none⟩ (.int .i64 0)).setCell ⟨w.heap.size + 1, 3, none⟩ (.bool false)).setCell ⟨w.heap.size + 1, 4, none⟩ (.slice none 0 0)).setCell ⟨w.heap.size + 1, 5, none⟩ (.int .i64 0) = w5 at *
    refine bodyPost_ret (v := .tuple #[.agg #[.bool false, .slice none 0 0, .int .i64 0, .bool false, .slice none 0 0, .int .i64 0], .int .i64 R]) (by simp [results, Tryz.results50, go_sem, p0, p1, p2, p3, p4, p5]) rfl ?_
    exact ⟨⟨_, _, _, _, _, _, _, _, _, _, rfl, fun h => absurd h hR⟩, HE.out⟩

end Go.Proofs.YtppkhhbhnhijpaaGreatDoor

/- What the laws of spans use: alike. -/
namespace Go.Proofs.YtppkhhbhnhijpaaGreatDoor
open Go.RowKit
open Lm
attribute [local go_sem ↓] Go.wp_at_zero Go.wp_at_succ

set_option maxRecDepth 20000 in
set_option maxHeartbeats 2000000 in
theorem alike10_bad (f : Int) (b1 : Bool) (a1 : Option Addr) (n1 k1 : Nat) (E1 : Int) (b2 : Bool) (a2 : Option Addr) (n2 k2 : Nat) (E2 : Int) (w : World) (hf : f ≠ 0) :
    Calls Tryz.prog 13 #[.agg #[.bool false, .slice none 0 0, .int .i64 0, .bool false, .slice none 0 0, .int .i64 0], .int .i64 f, .agg #[.bool b1, .slice a1 n1 k1, .int .i64 E1, .bool b2, .slice a2 n2 k2, .int .i64 E2], .int .i64 f] w fun e w' => e = .returned (.bool true) ∧ Below w.heap.size w w' := by
  obtain ⟨w0, hw0, hb0, q0, q1⟩ := enter2 w (.cells #[.bool false, .slice none 0 0, .int .i64 0, .bool false, .slice none 0 0, .int .i64 0] 33) (.cells #[.bool b1, .slice a1 n1 k1, .int .i64 E1, .bool b2, .slice a2 n2 k2, .int .i64 E2] 47)
  obtain ⟨y0, y1, y2, y3, y4, y5⟩ := hexa q0
  have HN := num10_any f w0
  have f1 : ((f : Int) == 0) = false := by rw [beq_eq_false_iff_ne]; exact hf
  have f2 : ((f : Int) != 0) = true := by rw [bne, f1]; rfl
  have f3 : ((f : Int) == f) = true := by simp
  have HB := hide hb0
  clear q0 q1 hb0 hf
  go_enter Tryz.func13, Tryz.ntmps13
  go_wp2_with fail
  refine HN.mono ?_
  rintro e wn ⟨rfl, hw⟩; rw [hw]; clear hw wn HN
  go_wp2
  go_ret
  exact ⟨rfl, HB.out⟩

theorem hexa_other {w : World} {g h : Nat} (hn : h ≠ g) (u0 u1 u2 u3 u4 u5 : Value) : ((((((w.setCell ⟨g, 0, none⟩ u0).setCell ⟨g, 1, none⟩ u1).setCell ⟨g, 2, none⟩ u2).setCell ⟨g, 3, none⟩ u3).setCell ⟨g, 4, none⟩ u4).setCell ⟨g, 5, none⟩ u5).heap[h]? = w.heap[h]? := by
  rw [Below.heap_setCell _ _ _ _ hn, Below.heap_setCell _ _ _ _ hn, Below.heap_setCell _ _ _ _ hn, Below.heap_setCell _ _ _ _ hn, Below.heap_setCell _ _ _ _ hn, Below.heap_setCell _ _ _ _ hn]

/-- What Is answers of an answer that is the document's number. -/
theorem DR.is {w : World} {base : Nat} {b : Bool} {a : Option Addr} {n c : Nat} {ex M E : Int} (h : DR w base b (.slice a n c) ex 0 M E) : ex = E ∧ ∀ (W : World) (b' : Bool) (a' : Option Addr) (n' c' : Nat), Below w.heap.size w W → Dn W b' (.slice a' n' c') M → Calls Tryz.prog 51 #[.agg #[.bool b', .slice a' n' c', .int .i64 E], .bool b, .slice a n c, .int .i64 ex] W fun e w' => e = .returned (.bool true) ∧ Below W.heap.size W w' := by
  obtain ⟨rs, A1, H2⟩ := h
  rcases H2 with ⟨_, q2, q3, q4, q5, q6, q7⟩ | ⟨q1, _⟩ | ⟨q1, _⟩
  · subst q5
    refine ⟨rfl, fun W b' a' n' c' hg hd => ?_⟩
    have eb : b' = b := by rw [hd.1, q2]
    subst eb
    have hl : rs.length ≤ 1048576 := few_ofW q4 q3 (by omega)
    exact rdIs_any b' a' n' c' M ex (.slice a n c) rs W hd ((A1.below hg).arg (by omega)) q4 q3 (by omega)
  · omega
  · omega

set_option maxRecDepth 20000 in
set_option maxHeartbeats 4000000 in
theorem alike10_ok (b : Bool) (a : Option Addr) (n k : Nat) (ex : Int) (b' : Bool) (a' : Option Addr) (n' k' : Nat) (ex' r : Int) (b1 : Bool) (a1 : Option Addr) (n1 k1 : Nat) (M1 E1 : Int) (b2 : Bool) (a2 : Option Addr) (n2 k2 : Nat) (M2 E2 : Int) (base : Nat) (w : World) (hS : SR w base b (.slice a n k) ex b' (.slice a' n' k') ex' r M1 E1 M2 E2) (h1 : Dn w b1 (.slice a1 n1 k1) M1) (h2 : Dn w b2 (.slice a2 n2 k2) M2) :
    Calls Tryz.prog 13 #[.agg #[.bool b, .slice a n k, .int .i64 ex, .bool b', .slice a' n' k', .int .i64 ex'], .int .i64 r, .agg #[.bool b1, .slice a1 n1 k1, .int .i64 E1, .bool b2, .slice a2 n2 k2, .int .i64 E2], .int .i64 0] w fun e w' => e = .returned (.bool true) ∧ Below w.heap.size w w' := by
  obtain ⟨w0, hw0, hb0, q0, q1⟩ := enter2 w (.cells #[.bool b, .slice a n k, .int .i64 ex, .bool b', .slice a' n' k', .int .i64 ex'] 33) (.cells #[.bool b1, .slice a1 n1 k1, .int .i64 E1, .bool b2, .slice a2 n2 k2, .int .i64 E2] 47)
  obtain ⟨m0, m1, m2, m3, m4, m5⟩ := hexa q1
  have HTD := told10_any b1 a1 n1 k1 M1 E1 b2 a2 n2 k2 M2 E2 w0 (h1.below hb0) (h2.below hb0)
  have hr := hS.1
  rw [← hr] at HTD
  have H0 := hide q0
  have H1 := hide q1
  have HB := hide hb0
  have HS := hide hS
  have HD := hide (And.intro h1 h2)
  clear q0 q1 hb0 h1 h2 hS hr
  by_cases hR : r = 0
  · subst hR
    obtain ⟨s1, s2, _⟩ := HS.out.2.1 rfl
    obtain ⟨x1, I1⟩ := s1.is
    obtain ⟨x2, I2⟩ := s2.is
    subst x1 x2
    have J1 := hide I1
    have J2 := hide I2
    clear s1 s2 I1 I2 HS
    go_enter Tryz.func13, Tryz.ntmps13
    go_wp2_with fail
    refine HTD.mono ?_
    rintro e t1 ⟨⟨b6, a6, n6, c6, e6, b7, a7, n7, c7, e7, rfl, hz⟩, g1⟩
    obtain ⟨rfl, rfl, rfl, rfl, rfl, rfl, rfl, rfl, rfl, rfl⟩ := hz rfl
    have G1 := bl_trans8 HB.out g1
    have c1 := block_upW g1 H1.out
    have d0 := (hexa_other (show w.heap.size ≠ w.heap.size + 1 by omega) (.bool b6) (.slice a6 n6 c6) (.int .i64 e6) (.bool b7) (.slice a7 n7 c7) (.int .i64 e7)).trans (block_upW g1 H0.out)
    have d1 := hexa_all c1 (.bool b6) (.slice a6 n6 c6) (.int .i64 e6) (.bool b7) (.slice a7 n7 c7) (.int .i64 e7)
    have G2 := below_hexa G1 (show w.heap.size ≤ w.heap.size + 1 by omega) (.bool b6) (.slice a6 n6 c6) (.int .i64 e6) (.bool b7) (.slice a7 n7 c7) (.int .i64 e7)
    have hf1 := hexaf c1
    obtain ⟨m0, m1, m2, m3, m4, m5⟩ := hexa c1
    have HN := num10_any 0 ((((((t1.setCell ⟨w.heap.size + 1, 0, none⟩ (.bool b6)).setCell ⟨w.heap.size + 1, 1, none⟩ (.slice a6 n6 c6)).setCell ⟨w.heap.size + 1, 2, none⟩ (.int .i64 e6)).setCell ⟨w.heap.size + 1, 3, none⟩ (.bool b7)).setCell ⟨w.heap.size + 1, 4, none⟩ (.slice a7 n7 c7)).setCell ⟨w.heap.size + 1, 5, none⟩ (.int .i64 e7))
    obtain ⟨y0, y1, y2, y3, y4, y5⟩ := hexa d0
    obtain ⟨z0, z1, z2, z3, z4, z5⟩ := hexa d1
    have K1 := J1.out _ b6 a6 n6 c6 G2 (HD.out.1.below G2)
    have HG := hide G2
    have HD0 := hide d0
    have HD1 := hide d1
    clear G1 G2 c1 d0 d1 g1 HTD J1
    go_wp2_with fail
    refine HN.mono ?_
    rintro e wn ⟨rfl, hw⟩; rw [hw]; clear hw wn HN
    go_wp2_with fail
    refine K1.mono ?_
    rintro e t2 ⟨rfl, g2⟩
    have GG := bl_trans8 HG.out g2
    have K2 := J2.out t2 b7 a7 n7 c7 GG (HD.out.2.below GG)
    have HGG := hide GG
    clear y0 y1 y2 y3 y4 y5 z0 z1 z2 z3 z4 z5 K1 J2
    obtain ⟨y0, y1, y2, y3, y4, y5⟩ := hexa (block_upW g2 HD0.out)
    obtain ⟨z0, z1, z2, z3, z4, z5⟩ := hexa (block_upW g2 HD1.out)
    clear g2 GG HD0 HD1 m0 m1 m2 m3 m4 m5 hf1
    go_wp2_with fail
    refine K2.mono ?_
    rintro e t3 ⟨rfl, g3⟩
    have HE := hide (bl_trans8 HGG.out g3)
    clear g3 K2
    go_wp2
    go_ret
    exact ⟨rfl, HE.out⟩
  · obtain ⟨x1, x2, x3, x4, x5, x6⟩ := HS.out.2.2 hR
    subst x1 x3 x4 x6
    cases x2
    cases x5
    have f1 : ((r : Int) == 0) = false := by rw [beq_eq_false_iff_ne]; exact hR
    have f2 : ((r : Int) != 0) = true := by rw [bne, f1]; rfl
    have f3 : ((r : Int) == r) = true := by simp
    clear HS
    go_enter Tryz.func13, Tryz.ntmps13
    go_wp2_with fail
    refine HTD.mono ?_
    rintro e t1 ⟨⟨b6, a6, n6, c6, e6, b7, a7, n7, c7, e7, rfl, hz⟩, g1⟩
    have G1 := bl_trans8 HB.out g1
    have c1 := block_upW g1 H1.out
    have d0 := (hexa_other (show w.heap.size ≠ w.heap.size + 1 by omega) (.bool b6) (.slice a6 n6 c6) (.int .i64 e6) (.bool b7) (.slice a7 n7 c7) (.int .i64 e7)).trans (block_upW g1 H0.out)
    have G2 := below_hexa G1 (show w.heap.size ≤ w.heap.size + 1 by omega) (.bool b6) (.slice a6 n6 c6) (.int .i64 e6) (.bool b7) (.slice a7 n7 c7) (.int .i64 e7)
    have hf1 := hexaf c1
    obtain ⟨m0, m1, m2, m3, m4, m5⟩ := hexa c1
    have HN := num10_any r ((((((t1.setCell ⟨w.heap.size + 1, 0, none⟩ (.bool b6)).setCell ⟨w.heap.size + 1, 1, none⟩ (.slice a6 n6 c6)).setCell ⟨w.heap.size + 1, 2, none⟩ (.int .i64 e6)).setCell ⟨w.heap.size + 1, 3, none⟩ (.bool b7)).setCell ⟨w.heap.size + 1, 4, none⟩ (.slice a7 n7 c7)).setCell ⟨w.heap.size + 1, 5, none⟩ (.int .i64 e7))
    obtain ⟨y0, y1, y2, y3, y4, y5⟩ := hexa d0
    have HG := hide G2
    clear G1 G2 c1 d0 g1 HTD hz
    go_wp2_with fail
    refine HN.mono ?_
    rintro e wn ⟨rfl, hw⟩; rw [hw]; clear hw wn HN
    go_wp2
    go_ret
    exact ⟨rfl, HG.out⟩

end Go.Proofs.YtppkhhbhnhijpaaGreatDoor

/- Own of a list with room behind it. -/
namespace Go.Proofs.YtppkhhbhnhijpaaGreatDoor
open Go.RowKit
open Lm
attribute [local go_sem ↓] Go.wp_at_zero Go.wp_at_succ

/-- Lists that lie apart from each other, and the list of them. -/
structure StX (sp : List Value) (w : World) (base L : Nat) (vs : List Value) (rows : Nat → List Nat) : Prop where
  list : w.heap[L]? = some (.cells (vs ++ sp).toArray 22 (0, 0))
  row : ∀ i, i < vs.length → Ans w base (vs.getD i nilV) (rows i)
  apart : ∀ i j, i < vs.length → j < vs.length → i ≠ j → (vs.getD i nilV).ownBlock = none ∨ (vs.getD i nilV).ownBlock ≠ (vs.getD j nilV).ownBlock

theorem StX.cell {sp : List Value} {w : World} {base L : Nat} {vs : List Value} {rows : Nat → List Nat} (h : StX sp w base L vs rows) (i : Nat) (hi : i < vs.length) : w.cell? ⟨L, i, none⟩ = some (vs.getD i nilV) := by
  simp [World.cell?, h.list, hi, List.getD, List.getElem?_append_left hi]

theorem StX.free {sp : List Value} {w : World} {base L : Nat} {vs : List Value} {rows : Nat → List Nat} (h : StX sp w base L vs rows) (i : Nat) : w.frozen? ⟨L, i, none⟩ = false := by
  simp [World.frozen?, h.list]

theorem StX.store {sp : List Value} {w : World} {base L : Nat} {vs : List Value} {rows : Nat → List Nat} (h : StX sp w base L vs rows) (i g cap : Nat) (hi : i < vs.length) (hv : vs.getD i nilV = .slice (some ⟨g, 0, none⟩) (rows i).length cap) (j z : Nat) (hz : z < 18446744073709551616) :
    StX sp (w.setCell ⟨g, j, none⟩ (.int .u64 (z : Int))) base L vs (upd rows i ((rows i).set j z)) := by
  have hri := h.row i hi
  have hne := hri.ne h.list
  rw [hv] at hne
  have hgL : L ≠ g := fun e => hne (by simp [Value.ownBlock, e])
  refine ⟨?_, fun m hm => ?_, h.apart⟩
  · rw [Below.heap_setCell _ _ _ _ hgL]; exact h.list
  · by_cases e : m = i
    · subst e
      rw [upd_same, hv]
      rw [hv] at hri
      have := hri.stored j z hz
      rw [List.length_set] at this
      exact this
    · rw [upd_other _ _ _ _ e]
      refine ⟨ownsRow_setCell_other (h.row m hm).own ?_ _, (h.row m hm).limbs⟩
      have := h.apart m i hm hi e
      rw [hv] at this
      rcases this with h1 | h1
      · rw [h1]; simp
      · simpa [Value.ownBlock] using h1

theorem StX.grow {sp : List Value} {w w2 : World} {base L : Nat} {vs : List Value} {rows : Nat → List Nat} (h : StX sp w base L vs rows) (k : Nat) (hk : k < vs.length) (o : Obj) (v' : Value) (r : List Nat)
    (ho : w2.ownsRow base 108 1 v' r.length (r.map lv)) (hl : Limbs r) (hg : (w.alloc o).grownBy w2 (vs.getD k nilV).ownBlock) (hat : v'.ownBlock = (vs.getD k nilV).ownBlock ∨ v'.ownBlock = some (w.alloc o).heap.size) :
    StX sp (w2.setCell ⟨L, k, none⟩ v') base L (vs.set k v') (upd rows k r) := by
  have hL := lt_of_block h.list
  have hsz : (w.alloc o).heap.size = w.heap.size + 1 := by simp
  have hneL := (h.row k hk).ne h.list
  have hL2 : w2.heap[L]? = some (.cells (vs ++ sp).toArray 22 (0, 0)) := by
    have e1 : (w.alloc o).heap[L]? = w.heap[L]? := Below.heap_alloc w o L hL
    rw [hg.block L (by omega) (fun e => hneL e.symm), e1]; exact h.list
  have hneL' : v'.ownBlock ≠ some L := by
    rcases hat with e | e
    · rw [e]; exact hneL
    · rw [e]; intro e2; simp at e2; omega
  refine ⟨?_, fun m hm => ?_, fun i j hi hj hij => ?_⟩
  · have hlt := lt_of_block hL2
    have h' : w2.heap[L] = .cells (vs ++ sp).toArray 22 (0, 0) := by simpa [Array.getElem?_eq_getElem hlt] using hL2
    show (w2.heap.modify L _)[L]? = _
    rw [Array.getElem?_eq_getElem (by simpa using hlt), Array.getElem_modify_self, h']
    simp [List.set_append_left _ _ hk]
  · rw [List.length_set] at hm
    by_cases e : m = k
    · subst e
      have ev : (vs.set m v').getD m nilV = v' := by simp [List.getD, hm]
      rw [upd_same, ev]
      exact ⟨ownsRow_setCell_other ho hneL' _, hl⟩
    · have ev : (vs.set k v').getD m nilV = vs.getD m nilV := by
        simp [List.getD, List.getElem?_set_ne (Ne.symm e)]
      rw [upd_other _ _ _ _ e, ev]
      have hr := h.row m hm
      refine ⟨ownsRow_setCell_other (((hr.own).alloc o).kept hg ?_) (hr.ne h.list) _, hr.limbs⟩
      exact h.apart m k hm hk e
  · rw [List.length_set] at hi hj
    have hlt : ∀ m, m < vs.length → ∀ g, (vs.getD m nilV).ownBlock = some g → g < w.heap.size := fun m hm g hg => ((h.row m hm).own.lt g hg).2
    by_cases e1 : i = k
    · subst e1
      have ev : (vs.set i v').getD i nilV = v' := by simp [List.getD, hi]
      have ev2 : (vs.set i v').getD j nilV = vs.getD j nilV := by simp [List.getD, List.getElem?_set_ne hij]
      rw [ev, ev2]
      rcases hat with e | e
      · rw [e]; exact h.apart i j hi hj hij
      · right
        rw [e]
        intro e2
        have := hlt j hj _ e2.symm
        omega
    · by_cases e2 : j = k
      · subst e2
        have ev : (vs.set j v').getD j nilV = v' := by simp [List.getD, hj]
        have ev2 : (vs.set j v').getD i nilV = vs.getD i nilV := by simp [List.getD, List.getElem?_set_ne (Ne.symm e1)]
        rw [ev, ev2]
        rcases hat with e | e
        · rw [e]; exact h.apart i j hi hj hij
        · right
          rw [e]
          intro e3
          have := hlt i hi _ e3
          omega
      · have ev : (vs.set k v').getD i nilV = vs.getD i nilV := by simp [List.getD, List.getElem?_set_ne (Ne.symm e1)]
        have ev2 : (vs.set k v').getD j nilV = vs.getD j nilV := by simp [List.getD, List.getElem?_set_ne (Ne.symm e2)]
        rw [ev, ev2]
        exact h.apart i j hi hj hij

theorem StX.congr {sp : List Value} {w : World} {base L : Nat} {vs : List Value} {rows rows' : Nat → List Nat} (h : StX sp w base L vs rows) (he : ∀ i, i < vs.length → rows i = rows' i) : StX sp w base L vs rows' :=
  ⟨h.list, fun i hi => by rw [← he i hi]; exact h.row i hi, h.apart⟩

theorem StX.kept {sp : List Value} {w w2 : World} {base L : Nat} {vs : List Value} {rows : Nat → List Nat} {v : Value} (h : StX sp w base L vs rows) (k : Nat) (hk : k < vs.length) (hv : vs.getD k nilV = v) (o : Obj) (hg : (w.alloc o).grownBy w2 v.ownBlock) :
    w2.cell? ⟨L, k, none⟩ = some v ∧ w2.frozen? ⟨L, k, none⟩ = false := by
  have hL := lt_of_block h.list
  have hneL := (h.row k hk).ne h.list
  rw [hv] at hneL
  have hsz : (w.alloc o).heap.size = w.heap.size + 1 := by simp
  have e : w2.heap[L]? = w.heap[L]? := by
    rw [hg.block L (by omega) (fun e => hneL e.symm)]; exact Below.heap_alloc w o L hL
  refine ⟨?_, ?_⟩
  · rw [World.cell?_of_block (w := w) (a := ⟨L, k, none⟩) e, h.cell k hk, hv]
  · rw [World.frozen?_of_block (w := w) (a := ⟨L, k, none⟩) e]; exact h.free k

set_option maxHeartbeats 1000000 in
theorem own_anyX (sp : List Value) (cap : Nat) (L base : Nat) (vs : List Value) (rows : Nat → List Nat) (w : World) (h : StX sp w base L vs rows) (hn : vs.length ≤ 1000) (hl : ∀ i, i < vs.length → (rows i).length ≤ 17592186044000) (hb : base ≤ L) :
    Calls Tryz.prog 46 #[.slice (some ⟨L, 0, none⟩) vs.length cap] w fun e w' => e = .returned (.bool true) ∧ BK base w w' := by
  go_enter Tryz.func46, Tryz.ntmps46
  go_wp2
  go_loopw [15] (fun i wr => ∃ k : Nat, k ≤ vs.length ∧ i = .int .i64 k ∧ StX sp wr base L vs (overTo rows k) ∧ BK base w wr) (fun i _ => vs.length - (intOf i).toNat)
  case atStart => exact ⟨0, Nat.zero_le _, rfl, h.congr (fun i _ => by simp [overTo]), BK.refl _ _⟩
  case round =>
    obtain ⟨k, hk, rfl, hst, hbl⟩ := hrel
    by_cases hkl : k < vs.length
    · have hck := hst.cell k hkl
      have hrow := hst.row k hkl
      have hrk : overTo rows k k = rows k := by simp [overTo]
      rw [hrk] at hrow
      have hlk := hl k hkl
      have ec : (k : Int) % 251 + 1 = ((k % 251 + 1 : Nat) : Int) := by omega
      have bc : k % 251 + 1 < 18446744073709551616 := by omega
      have HRK := hide hrk
      have HOV : Hid (over rows k = List.replicate (rows k).length (k % 251 + 1)) := rfl
      have HST := hide hst
      have HBL := hide hbl
      generalize k % 251 + 1 = c at *
      clear hst hbl hrk h
      rcases hrow.form with ⟨hv, hz⟩ | ⟨g, cap, hv, hg1, hg2, hcap, hmax, _, _⟩
      · rw [hv] at hck
        have HZ := hide hz
        clear hrow hv hz
        go_wp2
        refine wp_loop_rounds 1 ?_
        rw [rounds_succ]
        go_wp2
        go_roundw
        case rel =>
          refine ⟨k + 1, by omega, by go_num, HST.out.congr (fun m _ => ?_), HBL.out⟩
          by_cases e : m = k
          · subst e
            rw [HRK.out]
            simp [overTo, over, HZ.out]
          · exact overTo_step rows k m e
        case measure => simp [intOf]; omega
      · rw [hv] at hck
        go_wp2
        go_loopw [22] (fun i wr => ∃ j : Nat, j ≤ (rows k).length ∧ i = .int .i64 j ∧ StX sp wr base L vs (upd (overTo rows k) k (List.replicate j c ++ (rows k).drop j)) ∧ BK base w wr) (fun i _ => (rows k).length - (intOf i).toNat)
        case atStart =>
          refine ⟨0, Nat.zero_le _, rfl, HST.out.congr (fun m _ => ?_), HBL.out⟩
          by_cases e : m = k
          · subst e; rw [HRK.out, upd_same]; simp
          · rw [upd_other _ _ _ _ e]
        case round =>
          obtain ⟨j, hj, rfl, hst, hbl⟩ := hrel
          clear HST HBL
          by_cases hjl : j < (rows k).length
          · have hr2 := hst.row k hkl
            rw [upd_same] at hr2
            have hfl := fill_length (rows k) j c hj
            rcases hr2.form with ⟨hv2, _⟩ | ⟨g', cap', hv2, hg1', hg2', _, _, hfr', hcl'⟩
            · rw [hv2] at hv; cases hv
            · have hgg : g' = g := by rw [hv2] at hv; simp only [Value.slice.injEq, Option.some.injEq, Addr.mk.injEq] at hv; exact hv.1.1
              subst hgg
              have hfr := hfr' j
              have hco := hcl' j (by omega)
              have hst2 := hst.store k g' cap' hkl (by rw [upd_same]; exact hv2) j c bc
              rw [upd_same, fill_set (rows k) j c hjl] at hst2
              have HS := hide hst2
              have HL := hide (hbl.store (hv2 ▸ hr2) j (.int .u64 (c : Int)))
              generalize (List.replicate j c ++ (rows k).drop j).getD j 0 = o at *
              clear hst hbl hst2 hr2 hv2 hfr' hcl' hrow hv hck hfl
              go_wp2
              go_roundw
              case rel =>
                refine ⟨j + 1, by omega, by go_num, HS.out.congr (fun m _ => ?_), HL.out⟩
                by_cases e : m = k
                · subst e; rw [upd_same, upd_same]
                · rw [upd_other _ _ _ _ e, upd_other _ _ _ _ e, upd_other _ _ _ _ e]
              case measure => simp [intOf]; omega
          · have ej : j = (rows k).length := by omega
            subst ej
            have HS := hide hst
            have HL := hide hbl
            clear hst hbl hrow hv hck
            go_wp2
            go_roundw
            case rel =>
              refine ⟨k + 1, by omega, by go_num, HS.out.congr (fun m _ => ?_), HL.out⟩
              by_cases e : m = k
              · subst e
                rw [upd_same]
                have : overTo rows (m + 1) m = over rows m := by simp [overTo]
                rw [this, HOV.out]; simp
              · rw [upd_other _ _ _ _ e]; exact overTo_step rows k m e
            case measure => simp [intOf]; omega
    · have ek : k = vs.length := by omega
      subst ek
      have hst3 : StX sp wr base L vs (over rows) := hst.congr (fun m hm => by simp [overTo, hm])
      have HST := hide hst3
      have HBL := hide hbl
      clear hst hbl hst3 h
      obtain ⟨i0, hi, hz0, hz1, hz2⟩ := info_parts Tryz.infoU
      go_wp2
      go_loopw [36] (fun i wr => ∃ (k : Nat) (us : List Value), k ≤ vs.length ∧ us.length = vs.length ∧ i = .int .i64 k ∧ StX sp wr base L us (fun m => if m < k then over rows m ++ five (300 + 5 * m) else over rows m) ∧ BK base w wr) (fun i _ => vs.length - (intOf i).toNat)
      case atStart => exact ⟨0, vs, Nat.zero_le _, rfl, rfl, HST.out.congr (fun m _ => by simp), HBL.out⟩
      case round =>
        obtain ⟨k, us, hk', hus, rfl, hst, hbl⟩ := hrel
        clear HST HBL
        by_cases hkl' : k < vs.length
        · have hku : k < us.length := by omega
          have hck := hst.cell k hku
          have hrow := hst.row k hku
          simp only [Nat.lt_irrefl, if_false] at hrow
          have hfr := hst.free k
          have hlen : (over rows k).length ≤ 17592186044000 := by unfold over; rw [List.length_replicate]; exact hl k hkl'
          have eb : (300 : Int) + 5 * (k : Int) = ((300 + 5 * k : Nat) : Int) := by omega
          have HST := hide hst
          have HBL := hide hbl
          have HV := hide (rfl : us.getD k nilV = us.getD k nilV)
          have HB5 : Hid (300 + 5 * k < 6000) := by unfold Hid; omega
          obtain ⟨bb, hbb⟩ : ∃ bb, bb = 300 + 5 * k := ⟨_, rfl⟩
          rw [← hbb] at eb
          have hb6 : bb < 6000 := by omega
          have HBB := hide hbb
          generalize hv : us.getD k nilV = v at *
          have HVV := hide hv
          obtain ⟨b1, h1⟩ : ∃ b1, b1 = bb + 1 := ⟨_, rfl⟩
          obtain ⟨b2, h2⟩ : ∃ b2, b2 = bb + 2 := ⟨_, rfl⟩
          obtain ⟨b3, h3⟩ : ∃ b3, b3 = bb + 3 := ⟨_, rfl⟩
          obtain ⟨b4, h4⟩ : ∃ b4, b4 = bb + 4 := ⟨_, rfl⟩
          have g1 : (bb : Int) + 1 = (b1 : Int) := by omega
          have g2 : (bb : Int) + 2 = (b2 : Int) := by omega
          have g3 : (bb : Int) + 3 = (b3 : Int) := by omega
          have g4 : (bb : Int) + 4 = (b4 : Int) := by omega
          have q1 : b1 < 18446744073709551616 := by omega
          have q2 : b2 < 18446744073709551616 := by omega
          have q3 : b3 < 18446744073709551616 := by omega
          have q4 : b4 < 18446744073709551616 := by omega
          have H5 : Hid ([bb, b1, b2, b3, b4] = five (300 + 5 * k)) := hide (by rw [h1, h2, h3, h4, hbb]; rfl)
          clear hst hbl hv hbb HV h1 h2 h3 h4
          go_wp2_with (at_builtin; refine wpList_append_own_at _ rfl _ _ 22 rfl base 108 i0 (.int .u64 0) 1 8 Tryz.underlying22 hi hz0 hz1 hz2 rfl (by decide) v (over rows k).length _ rfl (hrow.own.alloc _) ⟨wr.heap.size, 0, none⟩ 5 5 ([bb, b1, b2, b3, b4].map lv) rfl rfl (news_cells [bb, b1, b2, b3, b4]) (lv_oneCell _) (by unfold maxLen; omega) (by omega) (by have := lt_of_block HST.out.list; simp; omega) ?_; intro v' w2 hown2 hgrow2 _ hat2; have hkp := HST.out.kept k hku HVV.out _ hgrow2; have hck2 := hkp.1; have hfr2 := hkp.2; clear hkp; obtain ⟨g5, cap5, hv5⟩ := own_shape hown2 (by omega); subst hv5; have HO := hide hown2; have HG := hide hgrow2; have HAT := hide hat2; clear hown2 hgrow2 hat2)
          go_roundw
          case rel =>
            refine ⟨k + 1, us.set k _, by omega, by rw [List.length_set]; exact hus, by go_num, (HST.out.grow k hku _ _ (over rows k ++ five (300 + 5 * k)) ?_ ?_ (by rw [HVV.out]; exact HG.out) (by rw [HVV.out]; exact HAT.out)).congr (fun m _ => ?_), ?_⟩
            · rw [← H5.out, List.length_append, List.map_append]; exact HO.out
            · exact row_limbs rows k (by omega)
            · by_cases e : m = k
              · subst e; rw [upd_same]; simp
              · rw [upd_other _ _ _ _ e]
                by_cases h1 : m < k
                · rw [if_pos h1, if_pos (by omega)]
                · rw [if_neg h1, if_neg (by omega)]
            · have hLs := lt_of_block HST.out.list
              exact HBL.out.grew hrow HST.out.list hb HG.out k _
          case measure => simp [intOf]; omega
        · have ek : k = vs.length := by omega
          subst ek
          have hst4 : StX sp wr base L us (fun m => over rows m ++ five (300 + 5 * m)) := hst.congr (fun m hm => by simp [show m < vs.length by omega])
          have HST := hide hst4
          have HBL := hide hbl
          clear hst hbl hst4 hi hz0 hz1 hz2
          go_wp2
          go_loop [64] (fun i => ∃ k : Nat, k ≤ vs.length ∧ i = .int .i64 k) (fun i => vs.length - (intOf i).toNat)
          case atStart => exact ⟨0, Nat.zero_le _, rfl⟩
          case round =>
            obtain ⟨k, hk4, rfl⟩ := hrel
            by_cases hkl4 : k < vs.length
            · have hku : k < us.length := by omega
              have hck := HST.out.cell k hku
              have hrow := HST.out.row k hku
              have hlr : (over rows k ++ five (300 + 5 * k)).length = (rows k).length + 5 := by simp [over, five]
              rcases hrow.form with ⟨_, h0⟩ | ⟨g, cap, hv, _, _, hgl, hgm, _, hgc⟩
              · rw [h0] at hlr; simp at hlr
              · rw [hlr] at hv hgl hgc
                rw [hv] at hck
                have hzl := hl k hkl4
                have HGC := hide hgc
                clear hrow hgc hv hlr
                go_wp2
                go_loop [71] (fun i => ∃ j : Nat, j ≤ (rows k).length + 5 ∧ i = .int .i64 j) (fun i => (rows k).length + 5 - (intOf i).toNat)
                case atStart => exact ⟨0, Nat.zero_le _, rfl⟩
                case round =>
                  obtain ⟨j, hj, rfl⟩ := hrel
                  by_cases hjl : j < (rows k).length + 5
                  · have hcj := HGC.out j hjl
                    by_cases hj2 : j < (rows k).length
                    · rw [row_low rows k j hj2] at hcj
                      have ec : (k : Int) % 251 + 1 = ((k % 251 + 1 : Nat) : Int) := by omega
                      have bc : k % 251 + 1 < 18446744073709551616 := by omega
                      generalize k % 251 + 1 = c at *
                      have hne : ((c : Int) != (c : Int)) = false := by simp
                      have i1 : (j : Int) < ((rows k).length : Int) := by omega
                      have hd2 : decide (((rows k).length : Int) ≤ (j : Int)) = false := decide_eq_false (by omega)
                      generalize (rows k).length = zl at *
                      go_wp2
                      go_round
                      case rel => exact ⟨j + 1, by omega, by go_num⟩
                      case measure => simp [intOf]; omega
                    · rw [row_high rows k j (by omega) hjl] at hcj
                      have hd1 : decide ((j : Int) < ((rows k).length : Int)) = false := decide_eq_false (by omega)
                      have i1 : ((rows k).length : Int) ≤ (j : Int) := by omega
                      generalize (rows k).length = zl at *
                      obtain ⟨t, ht⟩ : ∃ t, t = 300 + 5 * k + (j - zl) := ⟨_, rfl⟩
                      rw [← ht] at hcj
                      have et : (300 : Int) + 5 * (k : Int) + (j : Int) - ((zl : Int) + 5) + 5 = (t : Int) := by omega
                      have bt : t < 18446744073709551616 := by omega
                      have hne : ((t : Int) != (t : Int)) = false := by simp
                      have HT := hide ht
                      clear ht
                      go_wp2
                      go_round
                      case rel => exact ⟨j + 1, by omega, by go_num⟩
                      case measure => simp [intOf]; omega
                  · go_wp2
                    go_round
                    case rel => exact ⟨k + 1, by omega, by go_num⟩
                    case measure => simp [intOf]; omega
            · go_wp2
              go_ret
              exact ⟨rfl, HBL.out⟩

end Go.Proofs.YtppkhhbhnhijpaaGreatDoor

/- Spans at one scale; what the laws of spans make of a span that is handed in. -/
namespace Go.Proofs.YtppkhhbhnhijpaaGreatDoor
open Go.RowKit
open Lm
attribute [local go_sem ↓] Go.wp_at_zero Go.wp_at_succ

theorem bl_alloc10 {W0 W : World} (h : Below W0.heap.size W0 W) (o : Obj) : Below W0.heap.size W0 (W.alloc o) := h.alloc h.size _
theorem bl_drew10 {W0 W : World} (h : Below W0.heap.size W0 W) : Below W0.heap.size W0 W.drew := h.drew
theorem made10 {W t : World} {o : Obj} (h : Below (W.alloc o).heap.size (W.alloc o) t) : t.heap[W.heap.size]? = some o := block_upW h (heap_alloc_new W o)
theorem made10d {W t : World} {o : Obj} (h : Below (W.alloc o).drew.heap.size (W.alloc o).drew t) : t.heap[W.heap.size]? = some o := block_upW h (heap_alloc_new W o)

/-- A number that is handed in, counted in 2^-L. -/
def vof (b : Bool) (X : List Nat) (ex : Int) (L : Nat) : Int := zz b (val X) * 2 ^ (ex + L).toNat

/-- What is wrong with a span. -/
def flt (ex1 ex2 V1 V2 : Int) : Int := if fitE ex1 = true then (if fitE ex2 = true then (if V2 < V1 then 100 else 0) else 80) else 80

theorem cmpZ_pos {y z : Int} : 0 < cmpZ y z ↔ z < y := by
  unfold cmpZ
  split
  · omega
  · split <;> omega

/-- A dyadic of the document's: V, counted in 2^-L. -/
def V8 (w : World) (b : Bool) (a : Option Addr) (n c : Nat) (E : Int) (L : Nat) (V : Int) : Prop :=
  ∃ M, Dn w b (.slice a n c) M ∧ Rp L M E V ∧ Nr8 M E ∧ blen M.natAbs ≤ 1125899906840000 ∧ -1152921504606846976 ≤ E ∧ E ≤ 1152921504606846976

theorem V8.below {w w' : World} {b : Bool} {a : Option Addr} {n c : Nat} {E : Int} {L : Nat} {V : Int} (h : V8 w b a n c E L V) (hb : Below w.heap.size w w') : V8 w' b a n c E L V := by
  obtain ⟨M, h1, h2⟩ := h
  exact ⟨M, h1.below hb, h2⟩

theorem V8.hexa {w : World} {b0 : Bool} {a0 : Option Addr} {n0 c0 : Nat} {E0 : Int} {L : Nat} {V : Int} {g : Nat} {p : Bool} {a : Option Addr} {n c : Nat} {e : Int} {p' : Bool} {a' : Option Addr} {n' c' : Nat} {e' : Int} {t : TypeId} (h : V8 w b0 a0 n0 c0 E0 L V) (hl : w.heap[g]? = some (.cells #[.bool p, .slice a n c, .int .i64 e, .bool p', .slice a' n' c', .int .i64 e'] t)) (b1 : Bool) (a1 : Option Addr) (n1 c1 : Nat) (e1 : Int) (b2 : Bool) (a2 : Option Addr) (n2 c2 : Nat) (e2 : Int) :
    V8 ((((((w.setCell ⟨g, 0, none⟩ (.bool b1)).setCell ⟨g, 1, none⟩ (.slice a1 n1 c1)).setCell ⟨g, 2, none⟩ (.int .i64 e1)).setCell ⟨g, 3, none⟩ (.bool b2)).setCell ⟨g, 4, none⟩ (.slice a2 n2 c2)).setCell ⟨g, 5, none⟩ (.int .i64 e2)) b0 a0 n0 c0 E0 L V := by
  obtain ⟨M, ⟨h1, ds, h2, h3⟩, h4⟩ := h
  exact ⟨M, ⟨h1, ds, h2.hexa hl b1 a1 n1 c1 e1 b2 a2 n2 c2 e2, h3⟩, h4⟩

theorem V8.zero (w : World) (L : Nat) : V8 w false none 0 0 0 L 0 :=
  ⟨0, ⟨by decide, Num.nil8 w⟩, ⟨by omega, by simp⟩, .inl ⟨rfl, rfl⟩, by simp [blen], by omega, by omega⟩

theorem V8.cmp {b1 : Bool} {a1 : Option Addr} {n1 c1 : Nat} {E1 : Int} {b2 : Bool} {a2 : Option Addr} {n2 c2 : Nat} {E2 : Int} {L : Nat} {V1 V2 : Int} {w : World} (h1 : V8 w b1 a1 n1 c1 E1 L V1) (h2 : V8 w b2 a2 n2 c2 E2 L V2) :
    Calls Tryz.prog 35 #[.agg #[.bool b1, .slice a1 n1 c1, .int .i64 E1], .agg #[.bool b2, .slice a2 n2 c2, .int .i64 E2]] w fun e w' => e = .returned (.int .i64 (cmpZ V1 V2)) ∧ Below w.heap.size w w' := by
  obtain ⟨M1, d1, r1, _, f1, x1, y1⟩ := h1
  obtain ⟨M2, d2, r2, _, f2, x2, y2⟩ := h2
  have p1 := r1.1
  have p2 := r2.1
  refine (rdCmp_any b1 a1 n1 c1 M1 E1 b2 a2 n2 c2 M2 E2 L (E1 + L).toNat (E2 + L).toNat w d1 d2 f1 f2 x1 y1 x2 y2 (by omega) (by omega)).mono fun e w' h => ?_
  rw [r1.2, r2.2] at h
  exact h

theorem dyadV (b : Bool) (a : Option Addr) (c : Nat) (X : List Nat) (ex : Int) (L : Nat) (w : World) (hA : Arg w (.slice a X.length c) X) (hf : X.length ≤ 17592186043904) (hE : fitE ex = true) (hL : 4611686018427387904 ≤ L) :
    Calls Tryz.prog 12 #[.agg #[.bool b, .slice a X.length c, .int .i64 ex]] w fun e w' => (∃ b' a' n' c' E', e = .returned (.agg #[.bool b', .slice a' n' c', .int .i64 E']) ∧ V8 w' b' a' n' c' E' L (vof b X ex L)) ∧ Below w.heap.size w w' := by
  refine (dyad10_any b a c X ex w hA hf hE).mono fun e w' h => ?_
  obtain ⟨⟨b', a', n', c', he, hd⟩, hb⟩ := h
  have F := read_facts (b := b) (ex := ex) hA hf hE
  have hr := (fitE_iff ex).1 hE
  exact ⟨⟨b', a', n', c', _, he, _, hd, (Rp.make L (zz b (val X)) ex (by omega)).norm, nr8_of _ _, by omega, F.2.1, F.2.2.1⟩, hb⟩

/-- A span of the document's in a box. -/
def OneS (U : World) (L : Nat) (V1 V2 : Int) (s : Value) (wx : World) : Prop :=
  ∃ (g : Nat) (b : Bool) (a : Option Addr) (n k : Nat) (e : Int) (b' : Bool) (a' : Option Addr) (n' k' : Nat) (e' : Int), s = .pointer (some ⟨g, 0, none⟩) ∧ wx.heap[g]? = some (.cells #[.bool b, .slice a n k, .int .i64 e, .bool b', .slice a' n' k', .int .i64 e'] 47) ∧ V8 wx b a n k e L V1 ∧ V8 wx b' a' n' k' e' L V2 ∧ Below U.heap.size U wx ∧ U.heap.size ≤ g

theorem one_s {U t : World} {L : Nat} {V1 V2 : Int} {b : Bool} {a : Option Addr} {n k : Nat} {e : Int} {b' : Bool} {a' : Option Addr} {n' k' : Nat} {e' : Int} (h1 : V8 t b a n k e L V1) (h2 : V8 t b' a' n' k' e' L V2) (g : Below U.heap.size U t) : OneS U L V1 V2 (.pointer (some ⟨t.heap.size, 0, none⟩)) (t.alloc (.cells #[.bool b, .slice a n k, .int .i64 e, .bool b', .slice a' n' k', .int .i64 e'] 47)) :=
  ⟨_, b, a, n, k, e, b', a', n', k', e', rfl, heap_alloc_new _ _, h1.below (below_one6 _ _), h2.below (below_one6 _ _), bl_alloc10 g _, g.size⟩

theorem one_ss {U t : World} {L : Nat} {V1 V2 : Int} {b : Bool} {a : Option Addr} {n k : Nat} {e : Int} {b' : Bool} {a' : Option Addr} {n' k' : Nat} {e' : Int} {gg : Nat} (hq : t.heap[gg]? = some (.cells #[.bool false, .slice none 0 0, .int .i64 0, .bool false, .slice none 0 0, .int .i64 0] 47)) (hge : U.heap.size ≤ gg) (h1 : V8 t b a n k e L V1) (h2 : V8 t b' a' n' k' e' L V2) (g : Below U.heap.size U t) :
    OneS U L V1 V2 (.pointer (some ⟨gg, 0, none⟩)) ((((((t.setCell ⟨gg, 0, none⟩ (.bool b)).setCell ⟨gg, 1, none⟩ (.slice a n k)).setCell ⟨gg, 2, none⟩ (.int .i64 e)).setCell ⟨gg, 3, none⟩ (.bool b')).setCell ⟨gg, 4, none⟩ (.slice a' n' k')).setCell ⟨gg, 5, none⟩ (.int .i64 e')) :=
  ⟨_, b, a, n, k, e, b', a', n', k', e', rfl, hexa_all hq _ _ _ _ _ _, h1.hexa hq b a n k e b' a' n' k' e', h2.hexa hq b a n k e b' a' n' k' e', below_hexa g hge _ _ _ _ _ _, hge⟩

/-- What Compare tells of a span's ends comes to what is wrong with it. -/
theorem cmpOf_any (b1 : Bool) (a1 : Option Addr) (k1 : Nat) (X : List Nat) (ex1 : Int) (b2 : Bool) (a2 : Option Addr) (k2 : Nat) (Y : List Nat) (ex2 : Int) (L : Nat) (w : World) (hA : Arg w (.slice a1 X.length k1) X) (hB : Arg w (.slice a2 Y.length k2) Y) (f1 : X.length ≤ 17592186043904) (f2 : Y.length ≤ 17592186043904) (hL : 4611686018427387904 ≤ L) :
    ∃ o c, CmpOf w b1 a1 X.length k1 ex1 b2 a2 Y.length k2 ex2 o c ∧ fltC o c = flt ex1 ex2 (vof b1 X ex1 L) (vof b2 Y ex2 L) := by
  unfold flt
  by_cases hE1 : fitE ex1 = true
  · rw [if_pos hE1]
    by_cases hE2 : fitE ex2 = true
    · rw [if_pos hE2]
      have r1 := (fitE_iff ex1).1 hE1
      have r2 := (fitE_iff ex2).1 hE2
      refine ⟨cmpZ (vof b1 X ex1 L) (vof b2 Y ex2 L), 0, fun W hg => yCompare_ok b1 a1 k1 X ex1 b2 a2 k2 Y ex2 L _ _ W (hA.below hg) (hB.below hg) (by omega) (by omega) hE1 hE2 hL (by omega) (by omega), ?_⟩
      unfold fltC
      rw [if_pos rfl]
      simp only [cmpZ_pos]
    · rw [if_neg hE2]
      exact ⟨0, 80, fun W hg => yCompare_no2 b1 a1 k1 X ex1 b2 a2 Y.length k2 ex2 W (hA.below hg) hE1 (by simpa using hE2), by decide⟩
  · rw [if_neg hE1]
    exact ⟨0, 80, fun W hg => yCompare_no1 b1 a1 X.length k1 ex1 b2 a2 Y.length k2 ex2 W (by simpa using hE1), by decide⟩

/-- A span as a call answers it, at one scale: refused with fl, or of two numbers. -/
def SRV (w : World) (base : Nat) (b1 : Bool) (v1 : Value) (e1 : Int) (b2 : Bool) (v2 : Value) (e2 c fl : Int) (L : Nat) (V1 V2 : Int) : Prop :=
  (fl ≠ 0 ∧ c = fl ∧ b1 = false ∧ v1 = .slice none 0 0 ∧ e1 = 0 ∧ b2 = false ∧ v2 = .slice none 0 0 ∧ e2 = 0) ∨
    (fl = 0 ∧ ∃ M1 E1 M2 E2, SR w base b1 v1 e1 b2 v2 e2 c M1 E1 M2 E2 ∧ Rp L M1 E1 V1 ∧ Nr8 M1 E1 ∧ Rp L M2 E2 V2 ∧ Nr8 M2 E2)

theorem SRV.below {w w' : World} {base : Nat} {b1 : Bool} {v1 : Value} {e1 : Int} {b2 : Bool} {v2 : Value} {e2 c fl : Int} {L : Nat} {V1 V2 : Int} (h : SRV w base b1 v1 e1 b2 v2 e2 c fl L V1 V2) (hb : Below w.heap.size w w') : SRV w' base b1 v1 e1 b2 v2 e2 c fl L V1 V2 := by
  rcases h with h | ⟨h0, M1, E1, M2, E2, h1, h2⟩
  · exact .inl h
  · exact .inr ⟨h0, M1, E1, M2, E2, h1.below hb, h2⟩

theorem SRV.base {w : World} {base base' : Nat} {b1 : Bool} {v1 : Value} {e1 : Int} {b2 : Bool} {v2 : Value} {e2 c fl : Int} {L : Nat} {V1 V2 : Int} (h : SRV w base b1 v1 e1 b2 v2 e2 c fl L V1 V2) (hb : base' ≤ base) : SRV w base' b1 v1 e1 b2 v2 e2 c fl L V1 V2 := by
  rcases h with h | ⟨h0, M1, E1, M2, E2, h1, h2⟩
  · exact .inl h
  · exact .inr ⟨h0, M1, E1, M2, E2, h1.base hb, h2⟩

theorem SRV.hexa {w : World} {base g : Nat} {b1 : Bool} {v1 : Value} {e1 : Int} {b2 : Bool} {v2 : Value} {e2 c fl : Int} {L : Nat} {V1 V2 : Int} {a0 a1 a2 a3 a4 a5 : Value} {t : TypeId} (h : SRV w base b1 v1 e1 b2 v2 e2 c fl L V1 V2) (hl : w.heap[g]? = some (.cells #[a0, a1, a2, a3, a4, a5] t)) (ht : t ≠ 108) (u0 u1 u2 u3 u4 u5 : Value) :
    SRV ((((((w.setCell ⟨g, 0, none⟩ u0).setCell ⟨g, 1, none⟩ u1).setCell ⟨g, 2, none⟩ u2).setCell ⟨g, 3, none⟩ u3).setCell ⟨g, 4, none⟩ u4).setCell ⟨g, 5, none⟩ u5) base b1 v1 e1 b2 v2 e2 c fl L V1 V2 := by
  rcases h with h | ⟨h0, M1, E1, M2, E2, h1, h2⟩
  · exact .inl h
  · exact .inr ⟨h0, M1, E1, M2, E2, h1.hexa hl ht u0 u1 u2 u3 u4 u5, h2⟩

/-- A span that was answered. -/
def SAns (w : World) (e : Ending) (w' : World) (fl : Int) (L : Nat) (V1 V2 : Int) : Prop :=
  (∃ b1 a1 n1 k1 e1 b2 a2 n2 k2 e2 c, e = .returned (.tuple #[.agg #[.bool b1, .slice a1 n1 k1, .int .i64 e1, .bool b2, .slice a2 n2 k2, .int .i64 e2], .int .i64 c]) ∧ SRV w' w.heap.size b1 (.slice a1 n1 k1) e1 b2 (.slice a2 n2 k2) e2 c fl L V1 V2) ∧ Below w.heap.size w w'

theorem Ans.nil10 (w : World) (base : Nat) : Ans w base (.slice none 0 0) [] := by
  obtain ⟨rs, h1, h2⟩ : ∃ rs, Ans w base (.slice none 0 0) rs ∧ rs = [] := ⟨[], ⟨⟨rfl, .inl ⟨rfl, rfl⟩⟩, by intro z hz; cases hz⟩, rfl⟩
  rw [← h2]; exact h1

/-- The lists of an answer. -/
theorem SRV.lists {w : World} {base : Nat} {b1 : Bool} {v1 : Value} {e1 : Int} {b2 : Bool} {v2 : Value} {e2 c fl : Int} {L : Nat} {V1 V2 : Int} (h : SRV w base b1 v1 e1 b2 v2 e2 c fl L V1 V2) : ∃ r1 r2, Ans w base v1 r1 ∧ Ans w base v2 r2 ∧ r1.length ≤ 1048576 ∧ r2.length ≤ 1048576 ∧ (v1.ownBlock = none ∨ v1.ownBlock ≠ v2.ownBlock) := by
  have hnil : ∃ r1 r2, Ans w base (.slice none 0 0) r1 ∧ Ans w base (.slice none 0 0) r2 ∧ r1.length ≤ 1048576 ∧ r2.length ≤ 1048576 ∧ ((Value.slice none 0 0).ownBlock = none ∨ (Value.slice none 0 0).ownBlock ≠ (Value.slice none 0 0).ownBlock) :=
    ⟨[], [], Ans.nil10 w base, Ans.nil10 w base, by simp, by simp, .inl rfl⟩
  have hl : ∀ {b : Bool} {v : Value} {ex M E : Int}, DR w base b v ex 0 M E → ∃ rs, Ans w base v rs ∧ rs.length ≤ 1048576 := by
    intro b v ex M E hd
    obtain ⟨rs, g1, g2 | g2 | g2⟩ := hd
    · exact ⟨rs, g1, few_ofW g2.2.2.2.1 g2.2.2.1 (by have := g2.2.2.2.2.2.1; omega)⟩
    · exact absurd g2.1 (by decide)
    · exact absurd g2.1 (by decide)
  rcases h with ⟨_, _, _, rfl, _, _, rfl, _⟩ | ⟨_, M1, E1, M2, E2, h1, _⟩
  · exact hnil
  · by_cases hc : c = 0
    · obtain ⟨d1, d2, d3⟩ := h1.2.1 hc
      obtain ⟨r1, g1, l1⟩ := hl d1
      obtain ⟨r2, g2, l2⟩ := hl d2
      exact ⟨r1, r2, g1, g2, l1, l2, d3⟩
    · obtain ⟨_, rfl, _, _, rfl, _⟩ := h1.2.2 hc
      exact hnil

/-- Make, whatever is handed in. -/
theorem smakeV (b1 : Bool) (a1 : Option Addr) (k1 : Nat) (X : List Nat) (ex1 : Int) (b2 : Bool) (a2 : Option Addr) (k2 : Nat) (Y : List Nat) (ex2 : Int) (L : Nat) (w : World) (hT : Tab w) (hA : Arg w (.slice a1 X.length k1) X) (hB : Arg w (.slice a2 Y.length k2) Y) (f1 : X.length ≤ 17592186043904) (f2 : Y.length ≤ 17592186043904) (hL : 4611686018427387904 ≤ L) :
    Calls Tryz.prog 8 #[.agg #[.bool b1, .slice a1 X.length k1, .int .i64 ex1], .agg #[.bool b2, .slice a2 Y.length k2, .int .i64 ex2]] w fun e w' => SAns w e w' (flt ex1 ex2 (vof b1 X ex1 L) (vof b2 Y ex2 L)) L (vof b1 X ex1 L) (vof b2 Y ex2 L) := by
  obtain ⟨o, c, hc, hfl⟩ := cmpOf_any b1 a1 k1 X ex1 b2 a2 k2 Y ex2 L w hA hB f1 f2 hL
  by_cases h0 : fltC o c = 0
  · have hz : flt ex1 ex2 (vof b1 X ex1 L) (vof b2 Y ex2 L) = 0 := by rw [← hfl]; exact h0
    have hE1 : fitE ex1 = true := by
      unfold flt at hz
      by_cases h : fitE ex1 = true
      · exact h
      · rw [if_neg h] at hz; omega
    have hE2 : fitE ex2 = true := by
      unfold flt at hz
      rw [if_pos hE1] at hz
      by_cases h : fitE ex2 = true
      · exact h
      · rw [if_neg h] at hz; omega
    have ho : o ≤ 0 ∧ c = 0 := by
      unfold fltC at h0
      split at h0
      · split at h0
        · omega
        · omega
      · omega
    obtain ⟨ho, rfl⟩ := ho
    have r1 := (fitE_iff ex1).1 hE1
    have r2 := (fitE_iff ex2).1 hE2
    refine (smake_ok b1 a1 k1 X ex1 b2 a2 k2 Y ex2 o w hc ho hT hA hB (by omega) (by omega) hE1 hE2).mono fun e w' h => ?_
    obtain ⟨⟨p1, x1, y1, z1, q1, p2, x2, y2, z2, q2, cc, he, hs⟩, hb⟩ := h
    exact ⟨⟨p1, x1, y1, z1, q1, p2, x2, y2, z2, q2, cc, he, .inr ⟨hz, _, _, _, _, hs, (Rp.make L (zz b1 (val X)) ex1 (by omega)).norm, nr8_of _ _, (Rp.make L (zz b2 (val Y)) ex2 (by omega)).norm, nr8_of _ _⟩⟩, hb⟩
  · refine (smake_no b1 a1 _ k1 ex1 b2 a2 _ k2 ex2 o c w hc h0).mono fun e w' h => ?_
    obtain ⟨he, hb⟩ := h
    rw [hfl] at he h0
    exact ⟨⟨_, _, _, _, _, _, _, _, _, _, _, he, .inl ⟨h0, rfl, rfl, rfl, rfl, rfl, rfl, rfl⟩⟩, hb⟩

theorem flt_same (ex V : Int) : flt ex ex V V = if fitE ex = true then 0 else 80 := by
  unfold flt
  by_cases h : fitE ex = true
  · rw [if_pos h, if_pos h, if_neg (by omega), if_pos h]
  · rw [if_neg h, if_neg h]

/-- Point, whatever is handed in. -/
theorem spointV (b1 : Bool) (a1 : Option Addr) (k1 : Nat) (X : List Nat) (ex1 : Int) (L : Nat) (w : World) (hT : Tab w) (hA : Arg w (.slice a1 X.length k1) X) (f1 : X.length ≤ 17592186043904) (hL : 4611686018427387904 ≤ L) :
    Calls Tryz.prog 9 #[.agg #[.bool b1, .slice a1 X.length k1, .int .i64 ex1]] w fun e w' => SAns w e w' (if fitE ex1 = true then 0 else 80) L (vof b1 X ex1 L) (vof b1 X ex1 L) := by
  obtain ⟨o, c, hc, hfl⟩ := cmpOf_any b1 a1 k1 X ex1 b1 a1 k1 X ex1 L w hA hA f1 f1 hL
  rw [flt_same] at hfl
  by_cases hE1 : fitE ex1 = true
  · rw [if_pos hE1] at hfl ⊢
    have ho : o ≤ 0 ∧ c = 0 := by
      unfold fltC at hfl
      split at hfl
      · split at hfl
        · omega
        · omega
      · omega
    obtain ⟨ho, rfl⟩ := ho
    have r1 := (fitE_iff ex1).1 hE1
    refine (spoint_ok b1 a1 k1 X ex1 o w hc ho hT hA (by omega) hE1).mono fun e w' h => ?_
    obtain ⟨⟨p1, x1, y1, z1, q1, p2, x2, y2, z2, q2, cc, he, hs⟩, hb⟩ := h
    exact ⟨⟨p1, x1, y1, z1, q1, p2, x2, y2, z2, q2, cc, he, .inr ⟨rfl, _, _, _, _, hs, (Rp.make L (zz b1 (val X)) ex1 (by omega)).norm, nr8_of _ _, (Rp.make L (zz b1 (val X)) ex1 (by omega)).norm, nr8_of _ _⟩⟩, hb⟩
  · rw [if_neg hE1] at hfl ⊢
    refine (spoint_no b1 a1 _ k1 ex1 o c w hc (by omega)).mono fun e w' h => ?_
    obtain ⟨he, hb⟩ := h
    rw [hfl] at he
    exact ⟨⟨_, _, _, _, _, _, _, _, _, _, _, he, .inl ⟨by decide, rfl, rfl, rfl, rfl, rfl, rfl, rfl⟩⟩, hb⟩

/-- alike of an answer with what the document says. -/
theorem alikeV (b : Bool) (a : Option Addr) (n k : Nat) (ex : Int) (b' : Bool) (a' : Option Addr) (n' k' : Nat) (ex' r fl : Int) (b1 : Bool) (a1 : Option Addr) (n1 k1 : Nat) (E1 : Int) (b2 : Bool) (a2 : Option Addr) (n2 k2 : Nat) (E2 : Int) (L : Nat) (V1 V2 : Int) (base : Nat) (w : World) (hS : SRV w base b (.slice a n k) ex b' (.slice a' n' k') ex' r fl L V1 V2) (h1 : fl = 0 → V8 w b1 a1 n1 k1 E1 L V1) (h2 : fl = 0 → V8 w b2 a2 n2 k2 E2 L V2) :
    Calls Tryz.prog 13 #[.agg #[.bool b, .slice a n k, .int .i64 ex, .bool b', .slice a' n' k', .int .i64 ex'], .int .i64 r, .agg #[.bool b1, .slice a1 n1 k1, .int .i64 E1, .bool b2, .slice a2 n2 k2, .int .i64 E2], .int .i64 fl] w fun e w' => e = .returned (.bool true) ∧ Below w.heap.size w w' := by
  rcases hS with ⟨h0, rfl, rfl, g1, rfl, rfl, g2, rfl⟩ | ⟨rfl, M1, X1, M2, X2, hs, r1, m1, r2, m2⟩
  · cases g1
    cases g2
    exact alike10_bad r b1 a1 n1 k1 E1 b2 a2 n2 k2 E2 w h0
  · obtain ⟨N1, d1, q1, s1, _⟩ := h1 rfl
    obtain ⟨N2, d2, q2, s2, _⟩ := h2 rfl
    obtain ⟨rfl, rfl⟩ := Rp.one r1 q1 m1 s1
    obtain ⟨rfl, rfl⟩ := Rp.one r2 q2 m2 s2
    exact alike10_ok b a n k ex b' a' n' k' ex' r b1 a1 n1 k1 _ _ b2 a2 n2 k2 _ _ base w hs d1 d2

theorem Aparts.two10 {w w' : World} {base : Nat} {vs : List Value} {rss : List (List Nat)} {v1 v2 : Value} {r1 r2 : List Nat} (h : Aparts w base vs rss) (hb : Below w.heap.size w w') (hbase : base ≤ w.heap.size) (h1 : Ans w' w.heap.size v1 r1) (h2 : Ans w' w.heap.size v2 r2) (hap : v1.ownBlock = none ∨ v1.ownBlock ≠ v2.ownBlock) : Aparts w' base (vs ++ [v1, v2]) (rss ++ [r1, r2]) := by
  have e0 : ∀ i, i < vs.length → (vs ++ [v1, v2]).getD i nilV = vs.getD i nilV := fun i hi => by simp [List.getD, List.getElem?_append_left hi]
  have e1 : (vs ++ [v1, v2]).getD vs.length nilV = v1 := by simp [List.getD]
  have e2 : (vs ++ [v1, v2]).getD (vs.length + 1) nilV = v2 := by simp [List.getD]
  have f0 : ∀ i, i < rss.length → (rss ++ [r1, r2]).getD i [] = rss.getD i [] := fun i hi => by simp [List.getD, List.getElem?_append_left hi]
  have f1 : (rss ++ [r1, r2]).getD rss.length [] = r1 := by simp [List.getD]
  have f2 : (rss ++ [r1, r2]).getD (rss.length + 1) [] = r2 := by simp [List.getD]
  have hl := h.len
  have old : ∀ i, i < vs.length → ∀ u : Value, (∀ g, u.ownBlock = some g → w.heap.size ≤ g) → (vs.getD i nilV).ownBlock = none ∨ (vs.getD i nilV).ownBlock ≠ u.ownBlock := by
    intro i hi u hu
    rcases ho : (vs.getD i nilV).ownBlock with _ | g
    · exact .inl rfl
    · have k1 := (h.row i hi).top g ho
      refine .inr fun e => ?_
      have k2 := hu g e.symm
      omega
  have new : ∀ i, i < vs.length → ∀ u : Value, (∀ g, u.ownBlock = some g → w.heap.size ≤ g) → u.ownBlock = none ∨ u.ownBlock ≠ (vs.getD i nilV).ownBlock := by
    intro i hi u hu
    rcases ho : u.ownBlock with _ | g
    · exact .inl rfl
    · have k2 := hu g ho
      refine .inr fun e => ?_
      have k1 := (h.row i hi).top g e.symm
      omega
  have n1 : ∀ g, v1.ownBlock = some g → w.heap.size ≤ g := fun g hg => (h1.own.lt g hg).1
  have n2 : ∀ g, v2.ownBlock = some g → w.heap.size ≤ g := fun g hg => (h2.own.lt g hg).1
  refine ⟨by simp [hl], fun i hi => ?_, fun i j hi hj hij => ?_⟩
  · simp only [List.length_append, List.length_cons, List.length_nil] at hi
    rcases Nat.lt_trichotomy i vs.length with h3 | h3 | h3
    · rw [e0 i h3, f0 i (by omega)]
      exact (h.row i h3).below hb
    · subst h3
      rw [e1, hl, f1]
      exact h1.base hbase
    · obtain rfl : i = vs.length + 1 := by omega
      rw [e2, hl, f2]
      exact h2.base hbase
  · simp only [List.length_append, List.length_cons, List.length_nil] at hi hj
    rcases Nat.lt_trichotomy i vs.length with h3 | h3 | h3 <;> rcases Nat.lt_trichotomy j vs.length with h4 | h4 | h4
    · rw [e0 i h3, e0 j h4]; exact h.apart i j h3 h4 hij
    · rw [e0 i h3, h4, e1]; exact old i h3 _ n1
    · obtain rfl : j = vs.length + 1 := by omega
      rw [e0 i h3, e2]; exact old i h3 _ n2
    · rw [e0 j h4, h3, e1]; exact new j h4 _ n1
    · omega
    · obtain rfl : j = vs.length + 1 := by omega
      rw [h3, e1, e2]; exact hap
    · obtain rfl : i = vs.length + 1 := by omega
      rw [e0 j h4, e2]; exact new j h4 _ n2
    · obtain rfl : i = vs.length + 1 := by omega
      rw [h4, e2, e1]
      rcases ho : v2.ownBlock with _ | g
      · exact .inl rfl
      · refine .inr fun e => ?_
        rcases hap with k | k
        · rw [k] at e; cases e
        · exact k (by rw [ho, e])
    · omega

end Go.Proofs.YtppkhhbhnhijpaaGreatDoor

/- The laws' of. -/
namespace Go.Proofs.YtppkhhbhnhijpaaGreatDoor
open Go.RowKit
open Lm
attribute [local go_sem ↓] Go.wp_at_zero Go.wp_at_succ

/-- What of answers: a span of the document's, and what is wrong. -/
def OfR (w : World) (e : Ending) (w' : World) (fl : Int) (L : Nat) (V1 V2 : Int) : Prop :=
  (∃ b1 a1 n1 k1 e1 b2 a2 n2 k2 e2, e = .returned (.tuple #[.agg #[.bool b1, .slice a1 n1 k1, .int .i64 e1, .bool b2, .slice a2 n2 k2, .int .i64 e2], .int .i64 fl]) ∧ V8 w' b1 a1 n1 k1 e1 L (if fl = 0 then V1 else 0) ∧ V8 w' b2 a2 n2 k2 e2 L (if fl = 0 then V2 else 0)) ∧ Below w.heap.size w w'

set_option maxRecDepth 20000 in
set_option maxHeartbeats 2000000 in
theorem of10_no1 (b1 : Bool) (a1 : Option Addr) (k1 : Nat) (X : List Nat) (ex1 : Int) (b2 : Bool) (a2 : Option Addr) (k2 : Nat) (Y : List Nat) (ex2 : Int) (L : Nat) (V1 V2 : Int) (w : World) (hE1 : fitE ex1 = false) :
    Calls Tryz.prog 10 #[.agg #[.bool b1, .slice a1 X.length k1, .int .i64 ex1, .bool b2, .slice a2 Y.length k2, .int .i64 ex2]] w fun e w' => OfR w e w' 80 L V1 V2 := by
  obtain ⟨w0, hw0, hb0, q0, q9⟩ := enter2 w (.cells #[.bool b1, .slice a1 X.length k1, .int .i64 ex1, .bool b2, .slice a2 Y.length k2, .int .i64 ex2] 26) (.cells #[.bool false, .slice none 0 0, .int .i64 0, .bool false, .slice none 0 0, .int .i64 0] 47)
  obtain ⟨y0, y1, y2, y3, y4, y5⟩ := hexa q0
  have HG := hide hb0
  have HQ0 := hide q0
  have HC1 := hide q9
  have F1 := rfits_any ex1 w0
  have F2 := rfits_any ex2 w0
  have hf1 := hexaf HC1.out
  obtain ⟨m0, m1, m2, m3, m4, m5⟩ := hexa HC1.out
  clear q0 q9 hb0
  rw [hE1] at F1
  clear F2 hE1
  go_enter Tryz.func10, Tryz.ntmps10
  go_wp2_with fail
  refine F1.mono ?_
  rintro e wn ⟨rfl, hw⟩; rw [hw]; clear hw wn F1
  go_wp2
  have T3 := hexa_all HC1.out (.bool false) (.slice none 0 0) (.int .i64 0) (.bool false) (.slice none 0 0) (.int .i64 0)
  have T4 := below_hexa HG.out (show w.heap.size ≤ w.heap.size+1 by omega) (.bool false) (.slice none 0 0) (.int .i64 0) (.bool false) (.slice none 0 0) (.int .i64 0)
  obtain ⟨p0, p1, p2, p3, p4, p5⟩ := hexa T3
  have HE := hide T4
  clear T3 T4
  generalize (((((w0.setCell ⟨w.heap.size+1, 0, none⟩ (.bool false)).setCell ⟨w.heap.size+1, 1, none⟩ (.slice none 0 0)).setCell ⟨w.heap.size+1, 2, none⟩ (.int .i64 0)).setCell ⟨w.heap.size+1, 3, none⟩ (.bool false)).setCell ⟨w.heap.size+1, 4, none⟩ (.slice none 0 0)).setCell ⟨w.heap.size+1, 5, none⟩ (.int .i64 0) = w5 at *
  refine bodyPost_ret (v := .tuple #[.agg #[.bool false, .slice none 0 0, .int .i64 0, .bool false, .slice none 0 0, .int .i64 0], .int .i64 80]) (by simp [results, Tryz.results10, go_sem, p0, p1, p2, p3, p4, p5]) rfl ?_
  exact ⟨⟨_, _, _, _, _, _, _, _, _, _, rfl, V8.zero _ _, V8.zero _ _⟩, HE.out⟩

set_option maxRecDepth 20000 in
set_option maxHeartbeats 2000000 in
theorem of10_no2 (b1 : Bool) (a1 : Option Addr) (k1 : Nat) (X : List Nat) (ex1 : Int) (b2 : Bool) (a2 : Option Addr) (k2 : Nat) (Y : List Nat) (ex2 : Int) (L : Nat) (V1 V2 : Int) (w : World) (hE1 : fitE ex1 = true) (hE2 : fitE ex2 = false) :
    Calls Tryz.prog 10 #[.agg #[.bool b1, .slice a1 X.length k1, .int .i64 ex1, .bool b2, .slice a2 Y.length k2, .int .i64 ex2]] w fun e w' => OfR w e w' 80 L V1 V2 := by
  obtain ⟨w0, hw0, hb0, q0, q9⟩ := enter2 w (.cells #[.bool b1, .slice a1 X.length k1, .int .i64 ex1, .bool b2, .slice a2 Y.length k2, .int .i64 ex2] 26) (.cells #[.bool false, .slice none 0 0, .int .i64 0, .bool false, .slice none 0 0, .int .i64 0] 47)
  obtain ⟨y0, y1, y2, y3, y4, y5⟩ := hexa q0
  have HG := hide hb0
  have HQ0 := hide q0
  have HC1 := hide q9
  have F1 := rfits_any ex1 w0
  have F2 := rfits_any ex2 w0
  have hf1 := hexaf HC1.out
  obtain ⟨m0, m1, m2, m3, m4, m5⟩ := hexa HC1.out
  clear q0 q9 hb0
  rw [hE1] at F1
  rw [hE2] at F2
  clear hE1 hE2
  go_enter Tryz.func10, Tryz.ntmps10
  go_wp2_with fail
  refine F1.mono ?_
  rintro e wn ⟨rfl, hw⟩; rw [hw]; clear hw wn F1
  go_wp2_with fail
  refine F2.mono ?_
  rintro e wn ⟨rfl, hw⟩; rw [hw]; clear hw wn F2
  go_wp2
  have T3 := hexa_all HC1.out (.bool false) (.slice none 0 0) (.int .i64 0) (.bool false) (.slice none 0 0) (.int .i64 0)
  have T4 := below_hexa HG.out (show w.heap.size ≤ w.heap.size+1 by omega) (.bool false) (.slice none 0 0) (.int .i64 0) (.bool false) (.slice none 0 0) (.int .i64 0)
  obtain ⟨p0, p1, p2, p3, p4, p5⟩ := hexa T3
  have HE := hide T4
  clear T3 T4
  generalize (((((w0.setCell ⟨w.heap.size+1, 0, none⟩ (.bool false)).setCell ⟨w.heap.size+1, 1, none⟩ (.slice none 0 0)).setCell ⟨w.heap.size+1, 2, none⟩ (.int .i64 0)).setCell ⟨w.heap.size+1, 3, none⟩ (.bool false)).setCell ⟨w.heap.size+1, 4, none⟩ (.slice none 0 0)).setCell ⟨w.heap.size+1, 5, none⟩ (.int .i64 0) = w5 at *
  refine bodyPost_ret (v := .tuple #[.agg #[.bool false, .slice none 0 0, .int .i64 0, .bool false, .slice none 0 0, .int .i64 0], .int .i64 80]) (by simp [results, Tryz.results10, go_sem, p0, p1, p2, p3, p4, p5]) rfl ?_
  exact ⟨⟨_, _, _, _, _, _, _, _, _, _, rfl, V8.zero _ _, V8.zero _ _⟩, HE.out⟩

set_option maxRecDepth 20000 in
set_option maxHeartbeats 4000000 in
theorem of10_fit (b1 : Bool) (a1 : Option Addr) (k1 : Nat) (X : List Nat) (ex1 : Int) (b2 : Bool) (a2 : Option Addr) (k2 : Nat) (Y : List Nat) (ex2 : Int) (L : Nat) (w : World) (hA : Arg w (.slice a1 X.length k1) X) (hB : Arg w (.slice a2 Y.length k2) Y) (f1 : X.length ≤ 17592186043904) (f2 : Y.length ≤ 17592186043904) (hL : 4611686018427387904 ≤ L) (hE1 : fitE ex1 = true) (hE2 : fitE ex2 = true) :
    Calls Tryz.prog 10 #[.agg #[.bool b1, .slice a1 X.length k1, .int .i64 ex1, .bool b2, .slice a2 Y.length k2, .int .i64 ex2]] w fun e w' => OfR w e w' (if vof b2 Y ex2 L < vof b1 X ex1 L then 100 else 0) L (vof b1 X ex1 L) (vof b2 Y ex2 L) := by
  obtain ⟨w0, hw0, hb0, q0, q9⟩ := enter2 w (.cells #[.bool b1, .slice a1 X.length k1, .int .i64 ex1, .bool b2, .slice a2 Y.length k2, .int .i64 ex2] 26) (.cells #[.bool false, .slice none 0 0, .int .i64 0, .bool false, .slice none 0 0, .int .i64 0] 47)
  obtain ⟨y0, y1, y2, y3, y4, y5⟩ := hexa q0
  have HG := hide hb0
  have HQ0 := hide q0
  have HC1 := hide q9
  have F1 := rfits_any ex1 w0
  have F2 := rfits_any ex2 w0
  have hf1 := hexaf HC1.out
  obtain ⟨m0, m1, m2, m3, m4, m5⟩ := hexa HC1.out
  clear q0 q9 hb0
  have DY1 := hide (fun (W : World) (hg : Below w0.heap.size w0 W) => dyadV b1 a1 k1 X ex1 L W ((hA.below HG.out).below hg) f1 hE1 hL)
  have DY2 := hide (fun (W : World) (hg : Below w0.heap.size w0 W) => dyadV b2 a2 k2 Y ex2 L W ((hB.below HG.out).below hg) f2 hE2 hL)
  rw [hE1] at F1
  rw [hE2] at F2
  have KS := hide (fun (W : World) (hg : Below w0.heap.size w0 W) => show W.cell? ⟨w.heap.size, 0, none⟩ = some (.bool b1) ∧ W.cell? ⟨w.heap.size, 1, none⟩ = some (.slice a1 X.length k1) ∧ W.cell? ⟨w.heap.size, 2, none⟩ = some (.int .i64 ex1) ∧ W.cell? ⟨w.heap.size, 3, none⟩ = some (.bool b2) ∧ W.cell? ⟨w.heap.size, 4, none⟩ = some (.slice a2 Y.length k2) ∧ W.cell? ⟨w.heap.size, 5, none⟩ = some (.int .i64 ex2) from hexa (block_upW hg HQ0.out))
  have hc : 0 < cmpZ (vof b1 X ex1 L) (vof b2 Y ex2 L) ↔ vof b2 Y ex2 L < vof b1 X ex1 L := cmpZ_pos
  generalize vof b1 X ex1 L = V1 at *
  generalize vof b2 Y ex2 L = V2 at *
  have HCC := hide hc
  have g0 : Below w0.heap.size w0 w0 := Below.refl _ _
  clear hE1 hE2 hA hB f1 f2 hc
  obtain ⟨R, hR⟩ : ∃ R : Int, (if V2 < V1 then (100 : Int) else 0) = R := ⟨_, rfl⟩
  rw [hR]
  have HR := hide hR
  clear hR
  go_enter Tryz.func10, Tryz.ntmps10
  go_wp2_with fail
  refine F1.mono ?_
  rintro e wn ⟨rfl, hw⟩; rw [hw]; clear hw wn F1
  go_wp2_with fail
  refine F2.mono ?_
  rintro e wn ⟨rfl, hw⟩; rw [hw]; clear hw wn F2
  go_upto_region 3 with fail
  go_cut [4] from 18 to 24 (fun s wx => OneS w0 L V1 V2 s wx)
  case first =>
    go_region_held3 (fun w' => w'.cell? ⟨w.heap.size, 0, none⟩ = some (.bool b1) ∧ w'.cell? ⟨w.heap.size, 1, none⟩ = some (.slice a1 X.length k1) ∧ w'.cell? ⟨w.heap.size, 2, none⟩ = some (.int .i64 ex1) ∧ w'.cell? ⟨w.heap.size, 3, none⟩ = some (.bool b2) ∧ w'.cell? ⟨w.heap.size, 4, none⟩ = some (.slice a2 Y.length k2) ∧ w'.cell? ⟨w.heap.size, 5, none⟩ = some (.int .i64 ex2)) (first | (refine KS.out _ ?_; repeat (first | with_reducible assumption | with_reducible exact Below.refl _ _ | with_reducible apply bl_alloc10 | with_reducible apply bl_drew10 | (with_reducible refine below_hexa ?_ (by omega) _ _ _ _ _ _)))) (first
      | (go_at_call_of 12 a2; refine (DY2.out _ (by repeat (first | with_reducible exact g1 | with_reducible apply bl_alloc10))).mono ?_; rintro e' t2 ⟨⟨b6, a6, n6, c6, e6, rfl, v6⟩, hb2⟩; have g2 : Below w0.heap.size w0 t2 := bl_trans8 (by repeat (first | with_reducible exact g1 | with_reducible apply bl_alloc10)) hb2; have v5' := v5.below (show Below t1.heap.size t1 t2 from bl_trans8 (by repeat (first | with_reducible exact Below.refl _ _ | with_reducible apply bl_alloc10)) hb2); have hle1 := g1.size; (first | (with_reducible have hq := made10 hb2; obtain ⟨z0c, z1c, z2c, z3c, z4c, z5c⟩ := hexa hq; have zf := hexaf hq) | (with_reducible have hq := block_upW hb2 hpA; obtain ⟨z0c, z1c, z2c, z3c, z4c, z5c⟩ := hexa hq; have zf := hexaf hq) | skip))
      | (go_at_call 12; refine (DY1.out _ (by repeat (first | with_reducible exact Below.refl _ _ | with_reducible apply bl_alloc10 | with_reducible apply bl_drew10))).mono ?_; rintro e' t1 ⟨⟨b5, a5, n5, c5, e5, rfl, v5⟩, hb1⟩; have g1 : Below w0.heap.size w0 t1 := bl_trans8 (by repeat (first | with_reducible exact Below.refl _ _ | with_reducible apply bl_alloc10 | with_reducible apply bl_drew10)) hb1; (first | (with_reducible have hpA := made10d hb1) | (with_reducible have hpA := made10 hb1) | skip)))
    all_goals (go_wp2_with fail; go_meet; first
      | with_reducible exact one_s v5' v6 g2
      | with_reducible exact one_ss hq hle1 v5' v6 g2
      | with_reducible exact one_ss hq (Nat.le_refl _) v5' v6 g2)
  case rest =>
    obtain ⟨gd, b5, a5, n5, c5, e5, b6, a6, n6, c6, e6, rfl, hX, v5, v6, hbx, hgd⟩ := hcut
    have C := V8.cmp v5 v6
    have HBX := hide hbx
    have HX := hide hX
    have HV := hide (And.intro v5 v6)
    have HCD := hide (block_upW hbx HC1.out)
    clear KS DY1 DY2 g0 hbx hgd y0 y1 y2 y3 y4 y5 m0 m1 m2 m3 m4 m5 hf1 v5 v6
    obtain ⟨y0, y1, y2, y3, y4, y5⟩ := hexa hX
    clear hX
    go_wp2_with fail
    refine C.mono ?_
    rintro e t3 ⟨rfl, g3⟩
    have HGG := hide (bl_trans8 (bl_trans8 HG.out HBX.out) g3)
    have HV3 := hide (And.intro (HV.out.1.below g3) (HV.out.2.below g3))
    have HC2 := hide (block_upW g3 HCD.out)
    clear C y0 y1 y2 y3 y4 y5 HG HC1
    have HG := HGG
    have HC1 := HC2
    have hf1 := hexaf HC1.out
    obtain ⟨m0, m1, m2, m3, m4, m5⟩ := hexa HC1.out
    obtain ⟨y0, y1, y2, y3, y4, y5⟩ := hexa (block_upW g3 HX.out)
    clear g3 HGG HC2
    generalize hcz : cmpZ V1 V2 = cz at *
    by_cases hpos : V2 < V1
    · have i1 : decide (0 < cz) = true := decide_eq_true (HCC.out.2 hpos)
      have hr : R = 100 := by rw [← HR.out, if_pos hpos]
      subst hr
      clear hpos hcz
      go_wp2
      have T3 := hexa_all HC1.out (.bool false) (.slice none 0 0) (.int .i64 0) (.bool false) (.slice none 0 0) (.int .i64 0)
      have T4 := below_hexa HG.out (show w.heap.size ≤ w.heap.size+1 by omega) (.bool false) (.slice none 0 0) (.int .i64 0) (.bool false) (.slice none 0 0) (.int .i64 0)
      obtain ⟨p0, p1, p2, p3, p4, p5⟩ := hexa T3
      have HE := hide T4
      clear T3 T4
      generalize (((((t3.setCell ⟨w.heap.size+1, 0, none⟩ (.bool false)).setCell ⟨w.heap.size+1, 1, none⟩ (.slice none 0 0)).setCell ⟨w.heap.size+1, 2, none⟩ (.int .i64 0)).setCell ⟨w.heap.size+1, 3, none⟩ (.bool false)).setCell ⟨w.heap.size+1, 4, none⟩ (.slice none 0 0)).setCell ⟨w.heap.size+1, 5, none⟩ (.int .i64 0) = w5 at *
      refine bodyPost_ret (v := .tuple #[.agg #[.bool false, .slice none 0 0, .int .i64 0, .bool false, .slice none 0 0, .int .i64 0], .int .i64 100]) (by simp [results, Tryz.results10, go_sem, p0, p1, p2, p3, p4, p5]) rfl ?_
      exact ⟨⟨_, _, _, _, _, _, _, _, _, _, rfl, V8.zero _ _, V8.zero _ _⟩, HE.out⟩
    · have i1 : decide (0 < cz) = false := decide_eq_false (fun h => hpos (HCC.out.1 h))
      have hr : R = 0 := by rw [← HR.out, if_neg hpos]
      subst hr
      clear hpos hcz
      go_wp2
      have T3 := hexa_all HC1.out (.bool b5) (.slice a5 n5 c5) (.int .i64 e5) (.bool b6) (.slice a6 n6 c6) (.int .i64 e6)
      have T4 := below_hexa HG.out (show w.heap.size ≤ w.heap.size + 1 by omega) (.bool b5) (.slice a5 n5 c5) (.int .i64 e5) (.bool b6) (.slice a6 n6 c6) (.int .i64 e6)
      have T5 := HV3.out.1.hexa HC1.out b5 a5 n5 c5 e5 b6 a6 n6 c6 e6
      have T6 := HV3.out.2.hexa HC1.out b5 a5 n5 c5 e5 b6 a6 n6 c6 e6
      obtain ⟨p0, p1, p2, p3, p4, p5⟩ := hexa T3
      have HE := hide (And.intro T5 (And.intro T6 T4))
      clear T3 T4 T5 T6
      generalize (((((t3.setCell ⟨w.heap.size + 1, 0, none⟩ (.bool b5)).setCell ⟨w.heap.size + 1, 1, none⟩ (.slice a5 n5 c5)).setCell ⟨w.heap.size + 1, 2, none⟩ (.int .i64 e5)).setCell ⟨w.heap.size + 1, 3, none⟩ (.bool b6)).setCell ⟨w.heap.size + 1, 4, none⟩ (.slice a6 n6 c6)).setCell ⟨w.heap.size + 1, 5, none⟩ (.int .i64 e6) = w5 at *
      refine bodyPost_ret (v := .tuple #[.agg #[.bool b5, .slice a5 n5 c5, .int .i64 e5, .bool b6, .slice a6 n6 c6, .int .i64 e6], .int .i64 0]) (by simp [results, Tryz.results10, go_sem, p0, p1, p2, p3, p4, p5]) rfl ?_
      exact ⟨⟨_, _, _, _, _, _, _, _, _, _, rfl, HE.out.1, HE.out.2.1⟩, HE.out.2.2⟩

/-- of, whatever is handed in. -/
theorem of10_any (b1 : Bool) (a1 : Option Addr) (k1 : Nat) (X : List Nat) (ex1 : Int) (b2 : Bool) (a2 : Option Addr) (k2 : Nat) (Y : List Nat) (ex2 : Int) (L : Nat) (w : World) (hA : Arg w (.slice a1 X.length k1) X) (hB : Arg w (.slice a2 Y.length k2) Y) (f1 : X.length ≤ 17592186043904) (f2 : Y.length ≤ 17592186043904) (hL : 4611686018427387904 ≤ L) :
    Calls Tryz.prog 10 #[.agg #[.bool b1, .slice a1 X.length k1, .int .i64 ex1, .bool b2, .slice a2 Y.length k2, .int .i64 ex2]] w fun e w' => OfR w e w' (flt ex1 ex2 (vof b1 X ex1 L) (vof b2 Y ex2 L)) L (vof b1 X ex1 L) (vof b2 Y ex2 L) := by
  unfold flt
  by_cases hE1 : fitE ex1 = true
  · rw [if_pos hE1]
    by_cases hE2 : fitE ex2 = true
    · rw [if_pos hE2]
      exact of10_fit b1 a1 k1 X ex1 b2 a2 k2 Y ex2 L w hA hB f1 f2 hL hE1 hE2
    · rw [if_neg hE2]
      exact of10_no2 b1 a1 k1 X ex1 b2 a2 k2 Y ex2 L _ _ w hE1 (by simpa using hE2)
  · rw [if_neg hE1]
    exact of10_no1 b1 a1 k1 X ex1 b2 a2 k2 Y ex2 L _ _ w (by simpa using hE1)

end Go.Proofs.YtppkhhbhnhijpaaGreatDoor

/- The laws' own. -/
namespace Go.Proofs.YtppkhhbhnhijpaaGreatDoor
open Go.RowKit
open Lm
attribute [local go_sem ↓] Go.wp_at_zero Go.wp_at_succ

theorem infoL10 : (Tryz.prog.info? 22).map (fun i => (i.zero, i.size, i.bytes)) = some (some (.slice none 0 0), 1, 24) := by kernel_rfl

theorem news10 {w : World} (l : List Value) (t : TypeId) (j : Nat) (u : Value) (hj : l[j]? = some u) : (w.alloc (.cells l.toArray t)).cell? ((⟨w.heap.size, 0, none⟩ : Addr).add j) = some u := by
  have e : (⟨w.heap.size, 0, none⟩ : Addr).add j = ⟨w.heap.size, j, none⟩ := by
    unfold Addr.add; split <;> simp_all
  rw [e]
  simp only [World.cell?, heap_alloc_new]
  simpa using hj

theorem BK.after10 {base : Nat} {w w5 w' : World} (hb : Below w.heap.size w w5) (hle : base ≤ w.heap.size) (h : BK base w5 w') : BK base w w' :=
  ⟨(hb.mono hle).trans h.below, fun g cs t ht ht2 hc => h.box g cs t ht ht2 (block_upW hb hc)⟩

/-- A new box of a span that is nothing, and nothing put into it. -/
theorem zero_box6 (w : World) (t : TypeId) : ∃ w1 w2, w.alloc (.cells #[.bool false, .slice none 0 0, .int .i64 0, .bool false, .slice none 0 0, .int .i64 0] t) = w1 ∧ (((((w1.setCell ⟨w.heap.size, 0, none⟩ (.bool false)).setCell ⟨w.heap.size, 1, none⟩ (.slice none 0 0)).setCell ⟨w.heap.size, 2, none⟩ (.int .i64 0)).setCell ⟨w.heap.size, 3, none⟩ (.bool false)).setCell ⟨w.heap.size, 4, none⟩ (.slice none 0 0)).setCell ⟨w.heap.size, 5, none⟩ (.int .i64 0) = w2 ∧ w1.heap[w.heap.size]? = some (.cells #[.bool false, .slice none 0 0, .int .i64 0, .bool false, .slice none 0 0, .int .i64 0] t) ∧ w2.heap[w.heap.size]? = some (.cells #[.bool false, .slice none 0 0, .int .i64 0, .bool false, .slice none 0 0, .int .i64 0] t) ∧ Below w.heap.size w w2 := by
  obtain ⟨w1, e1, b1, c1⟩ := enter1 w (.cells #[.bool false, .slice none 0 0, .int .i64 0, .bool false, .slice none 0 0, .int .i64 0] t)
  exact ⟨w1, _, e1, rfl, c1, hexa_all c1 _ _ _ _ _ _, below_hexa b1 (Nat.le_refl _) _ _ _ _ _ _⟩

theorem Aparts.none10 (w : World) (base : Nat) : Aparts w base [] [] := ⟨rfl, fun i hi => absurd hi (by simp), fun i j hi => absurd hi (by simp)⟩

/-- The list of lists that was made, with the room behind it. -/
theorem stx10 {w w5 : World} {base : Nat} {vs : List Value} {rss : List (List Nat)} {g cap : Nat} (hown : w5.ownsRow w.heap.size 22 1 (.slice (some ⟨g, 0, none⟩) vs.length cap) vs.length vs) (hA : Aparts w base vs rss) (hb : Below w.heap.size w w5) : (∃ sp, StX sp w5 base g vs (fun i => rss.getD i [])) ∧ w.heap.size ≤ g := by
  obtain ⟨_, h2⟩ := hown
  rcases h2 with ⟨e, _⟩ | ⟨g', cap', cur, e, hge, hh, _, _, _, ht⟩
  · cases e
  · simp only [Value.slice.injEq, Option.some.injEq, Addr.mk.injEq] at e
    obtain ⟨⟨rfl, _⟩, _⟩ := e
    refine ⟨⟨cur.toList.drop vs.length, ?_, (hA.below hb).row, hA.apart⟩, hge⟩
    rw [hh]
    rw [Nat.mul_one] at ht
    have : vs ++ cur.toList.drop vs.length = cur.toList := by
      conv => lhs; lhs; rw [← ht]
      exact List.take_append_drop _ _
    rw [this]

set_option maxRecDepth 20000 in
set_option maxHeartbeats 4000000 in
theorem own10_2 (gs : Nat) (b1 : Bool) (a1 : Option Addr) (n1 k1 : Nat) (e1 : Int) (b2 : Bool) (a2 : Option Addr) (n2 k2 : Nat) (e2 : Int) (b3 : Bool) (a3 : Option Addr) (n3 k3 : Nat) (e3 : Int) (b4 : Bool) (a4 : Option Addr) (n4 k4 : Nat) (e4 : Int) (base : Nat) (rss : List (List Nat)) (w : World) (hg : w.heap[gs]? = some (.cells #[.bool b1, .slice a1 n1 k1, .int .i64 e1, .bool b2, .slice a2 n2 k2, .int .i64 e2, .bool b3, .slice a3 n3 k3, .int .i64 e3, .bool b4, .slice a4 n4 k4, .int .i64 e4] 33)) (hA : Aparts w base [.slice a1 n1 k1, .slice a2 n2 k2, .slice a3 n3 k3, .slice a4 n4 k4] rss) (hl : ∀ r ∈ rss, r.length ≤ 17592186044000) (hb : base ≤ w.heap.size) :
    Calls Tryz.prog 14 #[.slice (some ⟨gs, 0, none⟩) 2 2] w fun e w' => e = .returned (.bool true) ∧ BK base w w' := by
  obtain ⟨i0, hi, hz0, hz1, hz2⟩ := info_parts infoL10
  have HS := hide hg
  have HA := hide hA
  have HLL := hide hl
  have HBS := hide hb
  have HU : Hid (Below w.heap.size w w) := hide (Below.refl _ _)
  have HO : Hid (w.ownsRow w.heap.size 22 1 (.slice none 0 0) 0 []) := hide ⟨rfl, .inl ⟨rfl, rfl⟩⟩
  clear hg hA hl hb
  go_enter Tryz.func14, Tryz.ntmps14
  go_wp2
  refine wp_loop_rounds 3 ?_
  rw [rounds_succ]
  obtain ⟨u0, hu0, hbu0, qu0⟩ := enter1 w (.cells #[.bool b1, .slice a1 n1 k1, .int .i64 e1, .bool b2, .slice a2 n2 k2, .int .i64 e2] 33)
  obtain ⟨x0, x1, x2, x3, x4, x5⟩ := hexa qu0
  have CS := block_upW HU.out HS.out
  have c0 : w.cell? ⟨gs, 0, none⟩ = some (.bool b1) := by simp [World.cell?, CS]
  have c1 : w.cell? ⟨gs, 1, none⟩ = some (.slice a1 n1 k1) := by simp [World.cell?, CS]
  have c2 : w.cell? ⟨gs, 2, none⟩ = some (.int .i64 e1) := by simp [World.cell?, CS]
  have c3 : w.cell? ⟨gs, 3, none⟩ = some (.bool b2) := by simp [World.cell?, CS]
  have c4 : w.cell? ⟨gs, 4, none⟩ = some (.slice a2 n2 k2) := by simp [World.cell?, CS]
  have c5 : w.cell? ⟨gs, 5, none⟩ = some (.int .i64 e2) := by simp [World.cell?, CS]
  have HBN := hide (bl_trans8 HU.out hbu0)
  have HON := hide (show u0.ownsRow w.heap.size 22 1 (.slice none 0 0) 0 [] by rw [← hu0]; exact HO.out.alloc _)
  clear CS HU HO hbu0 qu0
  go_wp2_with (at_builtin; refine wpList_append_own_at _ rfl _ _ 96 rfl w.heap.size 22 i0 (.slice none 0 0) 1 24 Tryz.underlying96 hi hz0 hz1 hz2 rfl (by decide) (.slice none 0 0) 0 [] rfl (HON.out.alloc _) ⟨u0.heap.size, 0, none⟩ 2 2 [.slice a1 n1 k1, .slice a2 n2 k2] rfl rfl (news10 [.slice a1 n1 k1, .slice a2 n2 k2] 22) (by intro u hu; simp at hu; rcases hu with rfl | rfl <;> rfl) (by unfold maxLen; omega) (by omega) (by have := HBN.out.size; simp; omega) ?_; intro v0 t0 hown hgrow _ _; obtain ⟨g0, cap0, rfl⟩ := own_shape hown (by omega); have HU := hide ((HBN.out.alloc (by have := HBN.out.size; omega) _).grown hgrow (by have := HBN.out.size; simp; omega) (fun g hg => (HON.out.lt g hg).1)); have HO := hide hown; clear hown hgrow HBN HON x0 x1 x2 x3 x4 x5 c0 c1 c2 c3 c4 c5 hu0)
  rw [rounds_succ]
  obtain ⟨u1, hu1, hbu1, qu1⟩ := enter1 t0 (.cells #[.bool b3, .slice a3 n3 k3, .int .i64 e3, .bool b4, .slice a4 n4 k4, .int .i64 e4] 33)
  obtain ⟨x0, x1, x2, x3, x4, x5⟩ := hexa qu1
  have CS := block_upW HU.out HS.out
  have c0 : t0.cell? ⟨gs, 6, none⟩ = some (.bool b3) := by simp [World.cell?, CS]
  have c1 : t0.cell? ⟨gs, 7, none⟩ = some (.slice a3 n3 k3) := by simp [World.cell?, CS]
  have c2 : t0.cell? ⟨gs, 8, none⟩ = some (.int .i64 e3) := by simp [World.cell?, CS]
  have c3 : t0.cell? ⟨gs, 9, none⟩ = some (.bool b4) := by simp [World.cell?, CS]
  have c4 : t0.cell? ⟨gs, 10, none⟩ = some (.slice a4 n4 k4) := by simp [World.cell?, CS]
  have c5 : t0.cell? ⟨gs, 11, none⟩ = some (.int .i64 e4) := by simp [World.cell?, CS]
  have HBN := hide (bl_trans8 HU.out hbu1)
  have HON := hide (show u1.ownsRow w.heap.size 22 1 (.slice (some ⟨g0, 0, none⟩) 2 cap0) 2 [.slice a1 n1 k1, .slice a2 n2 k2] by rw [← hu1]; exact HO.out.alloc _)
  clear CS HU HO hbu1 qu1
  go_wp2_with (at_builtin; refine wpList_append_own_at _ rfl _ _ 96 rfl w.heap.size 22 i0 (.slice none 0 0) 1 24 Tryz.underlying96 hi hz0 hz1 hz2 rfl (by decide) (.slice (some ⟨g0, 0, none⟩) 2 cap0) 2 [.slice a1 n1 k1, .slice a2 n2 k2] rfl (HON.out.alloc _) ⟨u1.heap.size, 0, none⟩ 2 2 [.slice a3 n3 k3, .slice a4 n4 k4] rfl rfl (news10 [.slice a3 n3 k3, .slice a4 n4 k4] 22) (by intro u hu; simp at hu; rcases hu with rfl | rfl <;> rfl) (by unfold maxLen; omega) (by omega) (by have := HBN.out.size; simp; omega) ?_; intro v1 t1 hown hgrow _ _; obtain ⟨g1, cap1, rfl⟩ := own_shape hown (by omega); have HU := hide ((HBN.out.alloc (by have := HBN.out.size; omega) _).grown hgrow (by have := HBN.out.size; simp; omega) (fun g hg => (HON.out.lt g hg).1)); have HO := hide hown; clear hown hgrow HBN HON x0 x1 x2 x3 x4 x5 c0 c1 c2 c3 c4 c5 hu1)
  rw [rounds_succ]
  obtain ⟨⟨sp, hst⟩, hge⟩ := stx10 (vs := [.slice a1 n1 k1, .slice a2 n2 k2, .slice a3 n3 k3, .slice a4 n4 k4]) HO.out HA.out HU.out
  have C := own_anyX sp cap1 g1 base [.slice a1 n1 k1, .slice a2 n2 k2, .slice a3 n3 k3, .slice a4 n4 k4] (fun i => rss.getD i []) t1 hst (by simp) (by
    intro i hi'
    have hi2 : i < rss.length := by rw [← HA.out.len]; exact hi'
    show (rss.getD i []).length ≤ _
    have e : rss.getD i [] = rss[i] := by simp [List.getD, hi2]
    rw [e]
    exact HLL.out _ (List.getElem_mem _)) (by have := HBS.out; omega)
  clear hst hge HO
  go_wp2_with fail
  refine C.mono ?_
  rintro e t9 ⟨rfl, hk⟩
  have HE := hide (BK.after10 HU.out HBS.out hk)
  clear hk C
  go_wp2
  go_ret
  exact ⟨rfl, HE.out⟩

set_option maxRecDepth 20000 in
set_option maxHeartbeats 4000000 in
theorem own10_4 (gs : Nat) (b1 : Bool) (a1 : Option Addr) (n1 k1 : Nat) (e1 : Int) (b2 : Bool) (a2 : Option Addr) (n2 k2 : Nat) (e2 : Int) (b3 : Bool) (a3 : Option Addr) (n3 k3 : Nat) (e3 : Int) (b4 : Bool) (a4 : Option Addr) (n4 k4 : Nat) (e4 : Int) (b5 : Bool) (a5 : Option Addr) (n5 k5 : Nat) (e5 : Int) (b6 : Bool) (a6 : Option Addr) (n6 k6 : Nat) (e6 : Int) (b7 : Bool) (a7 : Option Addr) (n7 k7 : Nat) (e7 : Int) (b8 : Bool) (a8 : Option Addr) (n8 k8 : Nat) (e8 : Int) (base : Nat) (rss : List (List Nat)) (w : World) (hg : w.heap[gs]? = some (.cells #[.bool b1, .slice a1 n1 k1, .int .i64 e1, .bool b2, .slice a2 n2 k2, .int .i64 e2, .bool b3, .slice a3 n3 k3, .int .i64 e3, .bool b4, .slice a4 n4 k4, .int .i64 e4, .bool b5, .slice a5 n5 k5, .int .i64 e5, .bool b6, .slice a6 n6 k6, .int .i64 e6, .bool b7, .slice a7 n7 k7, .int .i64 e7, .bool b8, .slice a8 n8 k8, .int .i64 e8] 33)) (hA : Aparts w base [.slice a1 n1 k1, .slice a2 n2 k2, .slice a3 n3 k3, .slice a4 n4 k4, .slice a5 n5 k5, .slice a6 n6 k6, .slice a7 n7 k7, .slice a8 n8 k8] rss) (hl : ∀ r ∈ rss, r.length ≤ 17592186044000) (hb : base ≤ w.heap.size) :
    Calls Tryz.prog 14 #[.slice (some ⟨gs, 0, none⟩) 4 4] w fun e w' => e = .returned (.bool true) ∧ BK base w w' := by
  obtain ⟨i0, hi, hz0, hz1, hz2⟩ := info_parts infoL10
  have HS := hide hg
  have HA := hide hA
  have HLL := hide hl
  have HBS := hide hb
  have HU : Hid (Below w.heap.size w w) := hide (Below.refl _ _)
  have HO : Hid (w.ownsRow w.heap.size 22 1 (.slice none 0 0) 0 []) := hide ⟨rfl, .inl ⟨rfl, rfl⟩⟩
  clear hg hA hl hb
  go_enter Tryz.func14, Tryz.ntmps14
  go_wp2
  refine wp_loop_rounds 5 ?_
  rw [rounds_succ]
  obtain ⟨u0, hu0, hbu0, qu0⟩ := enter1 w (.cells #[.bool b1, .slice a1 n1 k1, .int .i64 e1, .bool b2, .slice a2 n2 k2, .int .i64 e2] 33)
  obtain ⟨x0, x1, x2, x3, x4, x5⟩ := hexa qu0
  have CS := block_upW HU.out HS.out
  have c0 : w.cell? ⟨gs, 0, none⟩ = some (.bool b1) := by simp [World.cell?, CS]
  have c1 : w.cell? ⟨gs, 1, none⟩ = some (.slice a1 n1 k1) := by simp [World.cell?, CS]
  have c2 : w.cell? ⟨gs, 2, none⟩ = some (.int .i64 e1) := by simp [World.cell?, CS]
  have c3 : w.cell? ⟨gs, 3, none⟩ = some (.bool b2) := by simp [World.cell?, CS]
  have c4 : w.cell? ⟨gs, 4, none⟩ = some (.slice a2 n2 k2) := by simp [World.cell?, CS]
  have c5 : w.cell? ⟨gs, 5, none⟩ = some (.int .i64 e2) := by simp [World.cell?, CS]
  have HBN := hide (bl_trans8 HU.out hbu0)
  have HON := hide (show u0.ownsRow w.heap.size 22 1 (.slice none 0 0) 0 [] by rw [← hu0]; exact HO.out.alloc _)
  clear CS HU HO hbu0 qu0
  go_wp2_with (at_builtin; refine wpList_append_own_at _ rfl _ _ 96 rfl w.heap.size 22 i0 (.slice none 0 0) 1 24 Tryz.underlying96 hi hz0 hz1 hz2 rfl (by decide) (.slice none 0 0) 0 [] rfl (HON.out.alloc _) ⟨u0.heap.size, 0, none⟩ 2 2 [.slice a1 n1 k1, .slice a2 n2 k2] rfl rfl (news10 [.slice a1 n1 k1, .slice a2 n2 k2] 22) (by intro u hu; simp at hu; rcases hu with rfl | rfl <;> rfl) (by unfold maxLen; omega) (by omega) (by have := HBN.out.size; simp; omega) ?_; intro v0 t0 hown hgrow _ _; obtain ⟨g0, cap0, rfl⟩ := own_shape hown (by omega); have HU := hide ((HBN.out.alloc (by have := HBN.out.size; omega) _).grown hgrow (by have := HBN.out.size; simp; omega) (fun g hg => (HON.out.lt g hg).1)); have HO := hide hown; clear hown hgrow HBN HON x0 x1 x2 x3 x4 x5 c0 c1 c2 c3 c4 c5 hu0)
  rw [rounds_succ]
  obtain ⟨u1, hu1, hbu1, qu1⟩ := enter1 t0 (.cells #[.bool b3, .slice a3 n3 k3, .int .i64 e3, .bool b4, .slice a4 n4 k4, .int .i64 e4] 33)
  obtain ⟨x0, x1, x2, x3, x4, x5⟩ := hexa qu1
  have CS := block_upW HU.out HS.out
  have c0 : t0.cell? ⟨gs, 6, none⟩ = some (.bool b3) := by simp [World.cell?, CS]
  have c1 : t0.cell? ⟨gs, 7, none⟩ = some (.slice a3 n3 k3) := by simp [World.cell?, CS]
  have c2 : t0.cell? ⟨gs, 8, none⟩ = some (.int .i64 e3) := by simp [World.cell?, CS]
  have c3 : t0.cell? ⟨gs, 9, none⟩ = some (.bool b4) := by simp [World.cell?, CS]
  have c4 : t0.cell? ⟨gs, 10, none⟩ = some (.slice a4 n4 k4) := by simp [World.cell?, CS]
  have c5 : t0.cell? ⟨gs, 11, none⟩ = some (.int .i64 e4) := by simp [World.cell?, CS]
  have HBN := hide (bl_trans8 HU.out hbu1)
  have HON := hide (show u1.ownsRow w.heap.size 22 1 (.slice (some ⟨g0, 0, none⟩) 2 cap0) 2 [.slice a1 n1 k1, .slice a2 n2 k2] by rw [← hu1]; exact HO.out.alloc _)
  clear CS HU HO hbu1 qu1
  go_wp2_with (at_builtin; refine wpList_append_own_at _ rfl _ _ 96 rfl w.heap.size 22 i0 (.slice none 0 0) 1 24 Tryz.underlying96 hi hz0 hz1 hz2 rfl (by decide) (.slice (some ⟨g0, 0, none⟩) 2 cap0) 2 [.slice a1 n1 k1, .slice a2 n2 k2] rfl (HON.out.alloc _) ⟨u1.heap.size, 0, none⟩ 2 2 [.slice a3 n3 k3, .slice a4 n4 k4] rfl rfl (news10 [.slice a3 n3 k3, .slice a4 n4 k4] 22) (by intro u hu; simp at hu; rcases hu with rfl | rfl <;> rfl) (by unfold maxLen; omega) (by omega) (by have := HBN.out.size; simp; omega) ?_; intro v1 t1 hown hgrow _ _; obtain ⟨g1, cap1, rfl⟩ := own_shape hown (by omega); have HU := hide ((HBN.out.alloc (by have := HBN.out.size; omega) _).grown hgrow (by have := HBN.out.size; simp; omega) (fun g hg => (HON.out.lt g hg).1)); have HO := hide hown; clear hown hgrow HBN HON x0 x1 x2 x3 x4 x5 c0 c1 c2 c3 c4 c5 hu1)
  rw [rounds_succ]
  obtain ⟨u2, hu2, hbu2, qu2⟩ := enter1 t1 (.cells #[.bool b5, .slice a5 n5 k5, .int .i64 e5, .bool b6, .slice a6 n6 k6, .int .i64 e6] 33)
  obtain ⟨x0, x1, x2, x3, x4, x5⟩ := hexa qu2
  have CS := block_upW HU.out HS.out
  have c0 : t1.cell? ⟨gs, 12, none⟩ = some (.bool b5) := by simp [World.cell?, CS]
  have c1 : t1.cell? ⟨gs, 13, none⟩ = some (.slice a5 n5 k5) := by simp [World.cell?, CS]
  have c2 : t1.cell? ⟨gs, 14, none⟩ = some (.int .i64 e5) := by simp [World.cell?, CS]
  have c3 : t1.cell? ⟨gs, 15, none⟩ = some (.bool b6) := by simp [World.cell?, CS]
  have c4 : t1.cell? ⟨gs, 16, none⟩ = some (.slice a6 n6 k6) := by simp [World.cell?, CS]
  have c5 : t1.cell? ⟨gs, 17, none⟩ = some (.int .i64 e6) := by simp [World.cell?, CS]
  have HBN := hide (bl_trans8 HU.out hbu2)
  have HON := hide (show u2.ownsRow w.heap.size 22 1 (.slice (some ⟨g1, 0, none⟩) 4 cap1) 4 [.slice a1 n1 k1, .slice a2 n2 k2, .slice a3 n3 k3, .slice a4 n4 k4] by rw [← hu2]; exact HO.out.alloc _)
  clear CS HU HO hbu2 qu2
  go_wp2_with (at_builtin; refine wpList_append_own_at _ rfl _ _ 96 rfl w.heap.size 22 i0 (.slice none 0 0) 1 24 Tryz.underlying96 hi hz0 hz1 hz2 rfl (by decide) (.slice (some ⟨g1, 0, none⟩) 4 cap1) 4 [.slice a1 n1 k1, .slice a2 n2 k2, .slice a3 n3 k3, .slice a4 n4 k4] rfl (HON.out.alloc _) ⟨u2.heap.size, 0, none⟩ 2 2 [.slice a5 n5 k5, .slice a6 n6 k6] rfl rfl (news10 [.slice a5 n5 k5, .slice a6 n6 k6] 22) (by intro u hu; simp at hu; rcases hu with rfl | rfl <;> rfl) (by unfold maxLen; omega) (by omega) (by have := HBN.out.size; simp; omega) ?_; intro v2 t2 hown hgrow _ _; obtain ⟨g2, cap2, rfl⟩ := own_shape hown (by omega); have HU := hide ((HBN.out.alloc (by have := HBN.out.size; omega) _).grown hgrow (by have := HBN.out.size; simp; omega) (fun g hg => (HON.out.lt g hg).1)); have HO := hide hown; clear hown hgrow HBN HON x0 x1 x2 x3 x4 x5 c0 c1 c2 c3 c4 c5 hu2)
  rw [rounds_succ]
  obtain ⟨u3, hu3, hbu3, qu3⟩ := enter1 t2 (.cells #[.bool b7, .slice a7 n7 k7, .int .i64 e7, .bool b8, .slice a8 n8 k8, .int .i64 e8] 33)
  obtain ⟨x0, x1, x2, x3, x4, x5⟩ := hexa qu3
  have CS := block_upW HU.out HS.out
  have c0 : t2.cell? ⟨gs, 18, none⟩ = some (.bool b7) := by simp [World.cell?, CS]
  have c1 : t2.cell? ⟨gs, 19, none⟩ = some (.slice a7 n7 k7) := by simp [World.cell?, CS]
  have c2 : t2.cell? ⟨gs, 20, none⟩ = some (.int .i64 e7) := by simp [World.cell?, CS]
  have c3 : t2.cell? ⟨gs, 21, none⟩ = some (.bool b8) := by simp [World.cell?, CS]
  have c4 : t2.cell? ⟨gs, 22, none⟩ = some (.slice a8 n8 k8) := by simp [World.cell?, CS]
  have c5 : t2.cell? ⟨gs, 23, none⟩ = some (.int .i64 e8) := by simp [World.cell?, CS]
  have HBN := hide (bl_trans8 HU.out hbu3)
  have HON := hide (show u3.ownsRow w.heap.size 22 1 (.slice (some ⟨g2, 0, none⟩) 6 cap2) 6 [.slice a1 n1 k1, .slice a2 n2 k2, .slice a3 n3 k3, .slice a4 n4 k4, .slice a5 n5 k5, .slice a6 n6 k6] by rw [← hu3]; exact HO.out.alloc _)
  clear CS HU HO hbu3 qu3
  go_wp2_with (at_builtin; refine wpList_append_own_at _ rfl _ _ 96 rfl w.heap.size 22 i0 (.slice none 0 0) 1 24 Tryz.underlying96 hi hz0 hz1 hz2 rfl (by decide) (.slice (some ⟨g2, 0, none⟩) 6 cap2) 6 [.slice a1 n1 k1, .slice a2 n2 k2, .slice a3 n3 k3, .slice a4 n4 k4, .slice a5 n5 k5, .slice a6 n6 k6] rfl (HON.out.alloc _) ⟨u3.heap.size, 0, none⟩ 2 2 [.slice a7 n7 k7, .slice a8 n8 k8] rfl rfl (news10 [.slice a7 n7 k7, .slice a8 n8 k8] 22) (by intro u hu; simp at hu; rcases hu with rfl | rfl <;> rfl) (by unfold maxLen; omega) (by omega) (by have := HBN.out.size; simp; omega) ?_; intro v3 t3 hown hgrow _ _; obtain ⟨g3, cap3, rfl⟩ := own_shape hown (by omega); have HU := hide ((HBN.out.alloc (by have := HBN.out.size; omega) _).grown hgrow (by have := HBN.out.size; simp; omega) (fun g hg => (HON.out.lt g hg).1)); have HO := hide hown; clear hown hgrow HBN HON x0 x1 x2 x3 x4 x5 c0 c1 c2 c3 c4 c5 hu3)
  rw [rounds_succ]
  obtain ⟨⟨sp, hst⟩, hge⟩ := stx10 (vs := [.slice a1 n1 k1, .slice a2 n2 k2, .slice a3 n3 k3, .slice a4 n4 k4, .slice a5 n5 k5, .slice a6 n6 k6, .slice a7 n7 k7, .slice a8 n8 k8]) HO.out HA.out HU.out
  have C := own_anyX sp cap3 g3 base [.slice a1 n1 k1, .slice a2 n2 k2, .slice a3 n3 k3, .slice a4 n4 k4, .slice a5 n5 k5, .slice a6 n6 k6, .slice a7 n7 k7, .slice a8 n8 k8] (fun i => rss.getD i []) t3 hst (by simp) (by
    intro i hi'
    have hi2 : i < rss.length := by rw [← HA.out.len]; exact hi'
    show (rss.getD i []).length ≤ _
    have e : rss.getD i [] = rss[i] := by simp [List.getD, hi2]
    rw [e]
    exact HLL.out _ (List.getElem_mem _)) (by have := HBS.out; omega)
  clear hst hge HO
  go_wp2_with fail
  refine C.mono ?_
  rintro e t9 ⟨rfl, hk⟩
  have HE := hide (BK.after10 HU.out HBS.out hk)
  clear hk C
  go_wp2
  go_ret
  exact ⟨rfl, HE.out⟩

end Go.Proofs.YtppkhhbhnhijpaaGreatDoor

/- Package span: fault, less, sign at one scale. -/
namespace Go.Proofs.YtppkhhbhnhijpaaGreatDoor
open Go.RowKit
open Lm
attribute [local go_sem ↓] Go.wp_at_zero Go.wp_at_succ

/-- What is wrong first. -/
def wst (f g : Int) : Int := if f = 0 then g else f

set_option maxRecDepth 20000 in
set_option maxHeartbeats 4000000 in
theorem fault2_any (gs : Nat) (b1 : Bool) (a1 : Option Addr) (n1 k1 : Nat) (ex1 : Int) (b2 : Bool) (a2 : Option Addr) (n2 k2 : Nat) (ex2 : Int) (b3 : Bool) (a3 : Option Addr) (n3 k3 : Nat) (ex3 : Int) (b4 : Bool) (a4 : Option Addr) (n4 k4 : Nat) (ex4 : Int) (o1 c1 o2 c2 : Int) (w : World) (hg : w.heap[gs]? = some (.cells #[.bool b1, .slice a1 n1 k1, .int .i64 ex1, .bool b2, .slice a2 n2 k2, .int .i64 ex2, .bool b3, .slice a3 n3 k3, .int .i64 ex3, .bool b4, .slice a4 n4 k4, .int .i64 ex4] 33)) (h1 : CmpOf w b1 a1 n1 k1 ex1 b2 a2 n2 k2 ex2 o1 c1) (h2 : CmpOf w b3 a3 n3 k3 ex3 b4 a4 n4 k4 ex4 o2 c2) :
    Calls Tryz.prog 55 #[.slice (some ⟨gs, 0, none⟩) 2 2] w fun e w' => e = .returned (.int .i64 (wst (fltC o1 c1) (fltC o2 c2))) ∧ Below w.heap.size w w' := by
  have HS := hide hg
  have C1 := hide h1
  have C2 := hide h2
  clear hg h1 h2
  by_cases z1 : c1 = 0
  · subst z1
    by_cases p1 : 0 < o1
    · rw [show wst (fltC o1 0) (fltC o2 c2) = 100 by unfold wst fltC; rw [if_pos rfl, if_pos p1]; rfl]
      have i1 : decide (0 < o1) = true := decide_eq_true p1
      clear p1
      go_enter Tryz.func55, Tryz.ntmps55
      go_wp2
      refine wp_loop_rounds 3 ?_
      rw [rounds_succ]
      have HB : Hid (Below w.heap.size w w) := hide (Below.refl _ _)
      obtain ⟨u1, hu1, hbu1, qu1⟩ := enter1 w (.cells #[.bool b1, .slice a1 n1 k1, .int .i64 ex1, .bool b2, .slice a2 n2 k2, .int .i64 ex2] 33)
      have Hu1 := hide (bl_trans8 HB.out hbu1)
      have C := C1.out u1 Hu1.out
      obtain ⟨x0, x1, x2, x3, x4, x5⟩ := hexa qu1
      obtain ⟨⟨c0, c1, c2, c3, c4, c5⟩, c6, c7, c8, c9, c10, c11⟩ := dozen (block_upW HB.out HS.out)
      clear hbu1 qu1
      go_wp2_with fail
      refine C.mono ?_
      rintro e t1 ⟨rfl, gt1⟩
      have Ht1 := hide (bl_trans8 Hu1.out gt1)
      clear gt1 C x0 x1 x2 x3 x4 x5 c0 c1 c2 c3 c4 c5 c6 c7 c8 c9 c10 c11 hu1
      go_wp2
      go_ret
      exact ⟨rfl, Ht1.out⟩
    · have i1 : decide (0 < o1) = false := decide_eq_false p1
      rw [show wst (fltC o1 0) (fltC o2 c2) = fltC o2 c2 by unfold wst; rw [if_pos (by unfold fltC; rw [if_pos rfl, if_neg p1])]]
      clear p1
      by_cases z2 : c2 = 0
      · subst z2
        by_cases p2 : 0 < o2
        · rw [show fltC o2 0 = 100 by unfold fltC; rw [if_pos rfl, if_pos p2]]
          have i2 : decide (0 < o2) = true := decide_eq_true p2
          clear p2
          go_enter Tryz.func55, Tryz.ntmps55
          go_wp2
          refine wp_loop_rounds 3 ?_
          rw [rounds_succ]
          have HB : Hid (Below w.heap.size w w) := hide (Below.refl _ _)
          obtain ⟨u1, hu1, hbu1, qu1⟩ := enter1 w (.cells #[.bool b1, .slice a1 n1 k1, .int .i64 ex1, .bool b2, .slice a2 n2 k2, .int .i64 ex2] 33)
          have Hu1 := hide (bl_trans8 HB.out hbu1)
          have C := C1.out u1 Hu1.out
          obtain ⟨x0, x1, x2, x3, x4, x5⟩ := hexa qu1
          obtain ⟨⟨c0, c1, c2, c3, c4, c5⟩, c6, c7, c8, c9, c10, c11⟩ := dozen (block_upW HB.out HS.out)
          clear hbu1 qu1
          go_wp2_with fail
          refine C.mono ?_
          rintro e t1 ⟨rfl, gt1⟩
          have Ht1 := hide (bl_trans8 Hu1.out gt1)
          clear gt1 C x0 x1 x2 x3 x4 x5 c0 c1 c2 c3 c4 c5 c6 c7 c8 c9 c10 c11 hu1
          go_wp2
          rw [rounds_succ]
          obtain ⟨u2, hu2, hbu2, qu2⟩ := enter1 t1 (.cells #[.bool b3, .slice a3 n3 k3, .int .i64 ex3, .bool b4, .slice a4 n4 k4, .int .i64 ex4] 33)
          have Hu2 := hide (bl_trans8 Ht1.out hbu2)
          have C := C2.out u2 Hu2.out
          obtain ⟨x0, x1, x2, x3, x4, x5⟩ := hexa qu2
          obtain ⟨⟨c0, c1, c2, c3, c4, c5⟩, c6, c7, c8, c9, c10, c11⟩ := dozen (block_upW Ht1.out HS.out)
          clear hbu2 qu2
          go_wp2_with fail
          refine C.mono ?_
          rintro e t2 ⟨rfl, gt2⟩
          have Ht2 := hide (bl_trans8 Hu2.out gt2)
          clear gt2 C x0 x1 x2 x3 x4 x5 c0 c1 c2 c3 c4 c5 c6 c7 c8 c9 c10 c11 hu2
          go_wp2
          go_ret
          exact ⟨rfl, Ht2.out⟩
        · rw [show fltC o2 0 = 0 by unfold fltC; rw [if_pos rfl, if_neg p2]]
          have i2 : decide (0 < o2) = false := decide_eq_false p2
          clear p2
          go_enter Tryz.func55, Tryz.ntmps55
          go_wp2
          refine wp_loop_rounds 3 ?_
          rw [rounds_succ]
          have HB : Hid (Below w.heap.size w w) := hide (Below.refl _ _)
          obtain ⟨u1, hu1, hbu1, qu1⟩ := enter1 w (.cells #[.bool b1, .slice a1 n1 k1, .int .i64 ex1, .bool b2, .slice a2 n2 k2, .int .i64 ex2] 33)
          have Hu1 := hide (bl_trans8 HB.out hbu1)
          have C := C1.out u1 Hu1.out
          obtain ⟨x0, x1, x2, x3, x4, x5⟩ := hexa qu1
          obtain ⟨⟨c0, c1, c2, c3, c4, c5⟩, c6, c7, c8, c9, c10, c11⟩ := dozen (block_upW HB.out HS.out)
          clear hbu1 qu1
          go_wp2_with fail
          refine C.mono ?_
          rintro e t1 ⟨rfl, gt1⟩
          have Ht1 := hide (bl_trans8 Hu1.out gt1)
          clear gt1 C x0 x1 x2 x3 x4 x5 c0 c1 c2 c3 c4 c5 c6 c7 c8 c9 c10 c11 hu1
          go_wp2
          rw [rounds_succ]
          obtain ⟨u2, hu2, hbu2, qu2⟩ := enter1 t1 (.cells #[.bool b3, .slice a3 n3 k3, .int .i64 ex3, .bool b4, .slice a4 n4 k4, .int .i64 ex4] 33)
          have Hu2 := hide (bl_trans8 Ht1.out hbu2)
          have C := C2.out u2 Hu2.out
          obtain ⟨x0, x1, x2, x3, x4, x5⟩ := hexa qu2
          obtain ⟨⟨c0, c1, c2, c3, c4, c5⟩, c6, c7, c8, c9, c10, c11⟩ := dozen (block_upW Ht1.out HS.out)
          clear hbu2 qu2
          go_wp2_with fail
          refine C.mono ?_
          rintro e t2 ⟨rfl, gt2⟩
          have Ht2 := hide (bl_trans8 Hu2.out gt2)
          clear gt2 C x0 x1 x2 x3 x4 x5 c0 c1 c2 c3 c4 c5 c6 c7 c8 c9 c10 c11 hu2
          go_wp2
          rw [rounds_succ]
          go_wp2
          go_ret
          exact ⟨rfl, Ht2.out⟩
      · rw [show fltC o2 c2 = c2 by unfold fltC; rw [if_neg z2]]
        have i2 : (c2 != 0) = true := by simpa using z2
        clear z2
        go_enter Tryz.func55, Tryz.ntmps55
        go_wp2
        refine wp_loop_rounds 3 ?_
        rw [rounds_succ]
        have HB : Hid (Below w.heap.size w w) := hide (Below.refl _ _)
        obtain ⟨u1, hu1, hbu1, qu1⟩ := enter1 w (.cells #[.bool b1, .slice a1 n1 k1, .int .i64 ex1, .bool b2, .slice a2 n2 k2, .int .i64 ex2] 33)
        have Hu1 := hide (bl_trans8 HB.out hbu1)
        have C := C1.out u1 Hu1.out
        obtain ⟨x0, x1, x2, x3, x4, x5⟩ := hexa qu1
        obtain ⟨⟨c0, c1, c2, c3, c4, c5⟩, c6, c7, c8, c9, c10, c11⟩ := dozen (block_upW HB.out HS.out)
        clear hbu1 qu1
        go_wp2_with fail
        refine C.mono ?_
        rintro e t1 ⟨rfl, gt1⟩
        have Ht1 := hide (bl_trans8 Hu1.out gt1)
        clear gt1 C x0 x1 x2 x3 x4 x5 c0 c1 c2 c3 c4 c5 c6 c7 c8 c9 c10 c11 hu1
        go_wp2
        rw [rounds_succ]
        obtain ⟨u2, hu2, hbu2, qu2⟩ := enter1 t1 (.cells #[.bool b3, .slice a3 n3 k3, .int .i64 ex3, .bool b4, .slice a4 n4 k4, .int .i64 ex4] 33)
        have Hu2 := hide (bl_trans8 Ht1.out hbu2)
        have C := C2.out u2 Hu2.out
        obtain ⟨x0, x1, x2, x3, x4, x5⟩ := hexa qu2
        obtain ⟨⟨c0, c1, c2, c3, c4, c5⟩, c6, c7, c8, c9, c10, c11⟩ := dozen (block_upW Ht1.out HS.out)
        clear hbu2 qu2
        go_wp2_with fail
        refine C.mono ?_
        rintro e t2 ⟨rfl, gt2⟩
        have Ht2 := hide (bl_trans8 Hu2.out gt2)
        clear gt2 C x0 x1 x2 x3 x4 x5 c0 c1 c2 c3 c4 c5 c6 c7 c8 c9 c10 c11 hu2
        go_wp2
        go_ret
        exact ⟨rfl, Ht2.out⟩
  · rw [show wst (fltC o1 c1) (fltC o2 c2) = c1 by unfold wst fltC; rw [if_neg z1, if_neg z1]]
    have i1 : (c1 != 0) = true := by simpa using z1
    clear z1
    go_enter Tryz.func55, Tryz.ntmps55
    go_wp2
    refine wp_loop_rounds 3 ?_
    rw [rounds_succ]
    have HB : Hid (Below w.heap.size w w) := hide (Below.refl _ _)
    obtain ⟨u1, hu1, hbu1, qu1⟩ := enter1 w (.cells #[.bool b1, .slice a1 n1 k1, .int .i64 ex1, .bool b2, .slice a2 n2 k2, .int .i64 ex2] 33)
    have Hu1 := hide (bl_trans8 HB.out hbu1)
    have C := C1.out u1 Hu1.out
    obtain ⟨x0, x1, x2, x3, x4, x5⟩ := hexa qu1
    obtain ⟨⟨c0, c1, c2, c3, c4, c5⟩, c6, c7, c8, c9, c10, c11⟩ := dozen (block_upW HB.out HS.out)
    clear hbu1 qu1
    go_wp2_with fail
    refine C.mono ?_
    rintro e t1 ⟨rfl, gt1⟩
    have Ht1 := hide (bl_trans8 Hu1.out gt1)
    clear gt1 C x0 x1 x2 x3 x4 x5 c0 c1 c2 c3 c4 c5 c6 c7 c8 c9 c10 c11 hu1
    go_wp2
    go_ret
    exact ⟨rfl, Ht1.out⟩

/-- What fault answers of one span, of two. -/
def FltOf (w : World) (b1 : Bool) (a1 : Option Addr) (n1 k1 : Nat) (ex1 : Int) (b2 : Bool) (a2 : Option Addr) (n2 k2 : Nat) (ex2 : Int) (F : Int) : Prop :=
  ∀ W gs, Below w.heap.size w W → W.heap[gs]? = some (.cells #[.bool b1, .slice a1 n1 k1, .int .i64 ex1, .bool b2, .slice a2 n2 k2, .int .i64 ex2] 33) → Calls Tryz.prog 55 #[.slice (some ⟨gs, 0, none⟩) 1 1] W fun e w' => e = .returned (.int .i64 F) ∧ Below W.heap.size W w'

def FltOf2 (w : World) (b1 : Bool) (a1 : Option Addr) (n1 k1 : Nat) (ex1 : Int) (b2 : Bool) (a2 : Option Addr) (n2 k2 : Nat) (ex2 : Int) (b3 : Bool) (a3 : Option Addr) (n3 k3 : Nat) (ex3 : Int) (b4 : Bool) (a4 : Option Addr) (n4 k4 : Nat) (ex4 : Int) (F : Int) : Prop :=
  ∀ W gs, Below w.heap.size w W → W.heap[gs]? = some (.cells #[.bool b1, .slice a1 n1 k1, .int .i64 ex1, .bool b2, .slice a2 n2 k2, .int .i64 ex2, .bool b3, .slice a3 n3 k3, .int .i64 ex3, .bool b4, .slice a4 n4 k4, .int .i64 ex4] 33) → Calls Tryz.prog 55 #[.slice (some ⟨gs, 0, none⟩) 2 2] W fun e w' => e = .returned (.int .i64 F) ∧ Below W.heap.size W w'

theorem fltOf_any (b1 : Bool) (a1 : Option Addr) (k1 : Nat) (X : List Nat) (ex1 : Int) (b2 : Bool) (a2 : Option Addr) (k2 : Nat) (Y : List Nat) (ex2 : Int) (L : Nat) (w : World) (hA : Arg w (.slice a1 X.length k1) X) (hB : Arg w (.slice a2 Y.length k2) Y) (f1 : X.length ≤ 17592186043904) (f2 : Y.length ≤ 17592186043904) (hL : 4611686018427387904 ≤ L) :
    FltOf w b1 a1 X.length k1 ex1 b2 a2 Y.length k2 ex2 (flt ex1 ex2 (vof b1 X ex1 L) (vof b2 Y ex2 L)) := by
  obtain ⟨o, c, hc, hfl⟩ := cmpOf_any b1 a1 k1 X ex1 b2 a2 k2 Y ex2 L w hA hB f1 f2 hL
  rw [← hfl]
  exact fun W gs hb hg => fault1_any gs b1 a1 X.length k1 ex1 b2 a2 Y.length k2 ex2 o c W hg (hc.below hb)

theorem fltOf2_any (b1 : Bool) (a1 : Option Addr) (k1 : Nat) (X : List Nat) (ex1 : Int) (b2 : Bool) (a2 : Option Addr) (k2 : Nat) (Y : List Nat) (ex2 : Int) (b3 : Bool) (a3 : Option Addr) (k3 : Nat) (Z : List Nat) (ex3 : Int) (b4 : Bool) (a4 : Option Addr) (k4 : Nat) (U : List Nat) (ex4 : Int) (L : Nat) (w : World) (hA : Arg w (.slice a1 X.length k1) X) (hB : Arg w (.slice a2 Y.length k2) Y) (hC : Arg w (.slice a3 Z.length k3) Z) (hD : Arg w (.slice a4 U.length k4) U) (f1 : X.length ≤ 17592186043904) (f2 : Y.length ≤ 17592186043904) (f3 : Z.length ≤ 17592186043904) (f4 : U.length ≤ 17592186043904) (hL : 4611686018427387904 ≤ L) :
    FltOf2 w b1 a1 X.length k1 ex1 b2 a2 Y.length k2 ex2 b3 a3 Z.length k3 ex3 b4 a4 U.length k4 ex4 (wst (flt ex1 ex2 (vof b1 X ex1 L) (vof b2 Y ex2 L)) (flt ex3 ex4 (vof b3 Z ex3 L) (vof b4 U ex4 L))) := by
  obtain ⟨o, c, hc, hfl⟩ := cmpOf_any b1 a1 k1 X ex1 b2 a2 k2 Y ex2 L w hA hB f1 f2 hL
  obtain ⟨o', c', hc', hfl'⟩ := cmpOf_any b3 a3 k3 Z ex3 b4 a4 k4 U ex4 L w hC hD f3 f4 hL
  rw [← hfl, ← hfl']
  exact fun W gs hb hg => fault2_any gs b1 a1 X.length k1 ex1 b2 a2 Y.length k2 ex2 b3 a3 Z.length k3 ex3 b4 a4 U.length k4 ex4 o c o' c' W hg (hc.below hb) (hc'.below hb)

theorem flt_zero {ex1 ex2 V1 V2 : Int} (h : flt ex1 ex2 V1 V2 = 0) : fitE ex1 = true ∧ fitE ex2 = true ∧ V1 ≤ V2 := by
  unfold flt at h
  split at h
  · split at h
    · split at h
      · omega
      · exact ⟨by assumption, by assumption, by omega⟩
    · omega
  · omega

/-- A number that was handed in and means something. -/
def N8 (w : World) (b : Bool) (a : Option Addr) (n k : Nat) (ex : Int) (L : Nat) (V : Int) : Prop :=
  ∃ X : List Nat, n = X.length ∧ Arg w (.slice a n k) X ∧ X.length ≤ 17592186043904 ∧ fitE ex = true ∧ vof b X ex L = V

theorem N8.below {w w' : World} {b : Bool} {a : Option Addr} {n k : Nat} {ex : Int} {L : Nat} {V : Int} (h : N8 w b a n k ex L V) (hb : Below w.heap.size w w') : N8 w' b a n k ex L V := by
  obtain ⟨X, h1, h2, h3⟩ := h
  exact ⟨X, h1, h2.below hb, h3⟩

theorem cmpZ_neg {y z : Int} : cmpZ y z < 0 ↔ y < z := by
  unfold cmpZ
  split
  · omega
  · split <;> omega

set_option maxRecDepth 20000 in
set_option maxHeartbeats 1000000 in
theorem slessN (b1 : Bool) (a1 : Option Addr) (n1 k1 : Nat) (ex1 : Int) (b2 : Bool) (a2 : Option Addr) (n2 k2 : Nat) (ex2 : Int) (L : Nat) (V1 V2 : Int) (w : World) (h1 : N8 w b1 a1 n1 k1 ex1 L V1) (h2 : N8 w b2 a2 n2 k2 ex2 L V2) (hL : 4611686018427387904 ≤ L) :
    Calls Tryz.prog 57 #[.agg #[.bool b1, .slice a1 n1 k1, .int .i64 ex1], .agg #[.bool b2, .slice a2 n2 k2, .int .i64 ex2]] w fun e w' => e = .returned (.bool (decide (V1 < V2))) ∧ Below w.heap.size w w' := by
  obtain ⟨X, rfl, hA, f1, hE1, rfl⟩ := h1
  obtain ⟨Y, rfl, hB, f2, hE2, rfl⟩ := h2
  obtain ⟨w0, hw0, hb0, q0, q1⟩ := enter2 w (.cells #[.bool b1, .slice a1 X.length k1, .int .i64 ex1] 31) (.cells #[.bool b2, .slice a2 Y.length k2, .int .i64 ex2] 31)
  obtain ⟨y0, y1, y2⟩ := tri8 q0
  obtain ⟨y3, y4, y5⟩ := tri8 q1
  have r1 := (fitE_iff ex1).1 hE1
  have r2 := (fitE_iff ex2).1 hE2
  have C := yCompare_ok b1 a1 k1 X ex1 b2 a2 k2 Y ex2 L (ex1 + L).toNat (ex2 + L).toNat w0 (hA.below hb0) (hB.below hb0) (by omega) (by omega) hE1 hE2 hL (by omega) (by omega)
  rw [show zz b1 (val X) * 2 ^ (ex1 + L).toNat = vof b1 X ex1 L from rfl, show zz b2 (val Y) * 2 ^ (ex2 + L).toNat = vof b2 Y ex2 L from rfl] at C
  generalize vof b1 X ex1 L = V1 at *
  generalize vof b2 Y ex2 L = V2 at *
  obtain ⟨D, hD⟩ : ∃ D, decide (V1 < V2) = D := ⟨_, rfl⟩
  have i1 : decide (cmpZ V1 V2 < 0) = D := by rw [← hD]; simp only [cmpZ_neg]
  rw [hD]
  generalize cmpZ V1 V2 = cz at *
  have HB := hide hb0
  clear hA hB q0 q1 hb0 r1 r2 hE1 hE2 hD
  go_enter Tryz.func57, Tryz.ntmps57
  go_wp2_with fail
  refine C.mono ?_
  rintro e t1 ⟨rfl, g1⟩
  have HE := hide (bl_trans8 HB.out g1)
  clear g1 C
  go_wp2
  go_ret
  exact ⟨rfl, HE.out⟩

/-- The sign of a number that is handed in. -/
theorem sg_vof (b : Bool) (X : List Nat) (ex : Int) (L : Nat) : (0 < sg b (val X) ↔ 0 < vof b X ex L) ∧ (sg b (val X) < 0 ↔ vof b X ex L < 0) := by
  have hp : (0 : Int) < 2 ^ (ex + L).toNat := Int.pow_pos (by omega)
  unfold vof
  have e1 : 0 < zz b (val X) * 2 ^ (ex + L).toNat ↔ 0 < zz b (val X) := by
    constructor
    · intro h
      rcases Int.lt_trichotomy (zz b (val X)) 0 with g | g | g
      · have := Int.mul_neg_of_neg_of_pos g hp; omega
      · rw [g] at h; omega
      · exact g
    · intro h; exact Int.mul_pos h hp
  have e2 : zz b (val X) * 2 ^ (ex + L).toNat < 0 ↔ zz b (val X) < 0 := by
    constructor
    · intro h
      rcases Int.lt_trichotomy (zz b (val X)) 0 with g | g | g
      · exact g
      · rw [g] at h; omega
      · have := Int.mul_pos g hp; omega
    · intro h; exact Int.mul_neg_of_neg_of_pos h hp
  rw [e1, e2]
  unfold sg zz
  cases b <;> simp <;> split <;> simp_all <;> omega

/-- All above 0, all below, or neither. -/
def sureV (V1 V2 : Int) : Int := if 0 < V1 then 1 else if V2 < 0 then -1 else 0

set_option maxRecDepth 20000 in
set_option maxHeartbeats 2000000 in
theorem ssignN (b1 : Bool) (a1 : Option Addr) (n1 k1 : Nat) (ex1 : Int) (b2 : Bool) (a2 : Option Addr) (n2 k2 : Nat) (ex2 : Int) (L : Nat) (V1 V2 : Int) (w : World) (h1 : N8 w b1 a1 n1 k1 ex1 L V1) (h2 : N8 w b2 a2 n2 k2 ex2 L V2) :
    Calls Tryz.prog 62 #[.agg #[.bool b1, .slice a1 n1 k1, .int .i64 ex1, .bool b2, .slice a2 n2 k2, .int .i64 ex2]] w fun e w' => e = .returned (.int .i64 (sureV V1 V2)) ∧ Below w.heap.size w w' := by
  obtain ⟨X, rfl, hA, f1, hE1, rfl⟩ := h1
  obtain ⟨Y, rfl, hB, f2, hE2, rfl⟩ := h2
  obtain ⟨w0, hw0, hb0, q0⟩ := enter1 w (.cells #[.bool b1, .slice a1 X.length k1, .int .i64 ex1, .bool b2, .slice a2 Y.length k2, .int .i64 ex2] 33)
  obtain ⟨y0, y1, y2, y3, y4, y5⟩ := hexa q0
  have C := ySign_any b1 a1 k1 X ex1 w0 (hA.below hb0)
  have C2 := hide (fun (W : World) (hg : Below w0.heap.size w0 W) => ySign_any b2 a2 k2 Y ex2 W ((hB.below hb0).below hg))
  have S1 := (sg_vof b1 X ex1 L).1
  have S2 := (sg_vof b2 Y ex2 L).2
  generalize vof b1 X ex1 L = V1 at *
  generalize vof b2 Y ex2 L = V2 at *
  generalize sg b1 (val X) = s1 at *
  generalize sg b2 (val Y) = s2 at *
  have HB := hide hb0
  have HQ := hide q0
  clear hA hB q0 hb0 hE1 hE2
  unfold sureV
  by_cases p1 : 0 < V1
  · rw [if_pos p1]
    have i1 : decide (0 < s1) = true := decide_eq_true (S1.2 p1)
    clear S1 S2 p1
    go_enter Tryz.func62, Tryz.ntmps62
    go_wp2_with fail
    refine C.mono ?_
    rintro e t1 ⟨rfl, g1⟩
    have HE := hide (bl_trans8 HB.out g1)
    clear g1 C
    go_wp2
    go_ret
    exact ⟨rfl, HE.out⟩
  · rw [if_neg p1]
    have i1 : decide (0 < s1) = false := decide_eq_false (fun h => p1 (S1.1 h))
    obtain ⟨R, hR⟩ : ∃ R : Int, (if V2 < 0 then (-1 : Int) else 0) = R := ⟨_, rfl⟩
    rw [hR]
    by_cases p2 : V2 < 0
    · have i2 : decide (s2 < 0) = true := decide_eq_true (S2.2 p2)
      rw [if_pos p2] at hR
      subst hR
      clear S1 S2 p1 p2
      go_enter Tryz.func62, Tryz.ntmps62
      go_wp2_with fail
      refine C.mono ?_
      rintro e t1 ⟨rfl, g1⟩
      have HE := hide (bl_trans8 HB.out g1)
      have D2 := C2.out t1 g1
      clear y0 y1 y2 y3 y4 y5
      obtain ⟨y0, y1, y2, y3, y4, y5⟩ := hexa (block_upW g1 HQ.out)
      clear g1 C
      go_wp2_with fail
      refine D2.mono ?_
      rintro e t2 ⟨rfl, g2⟩
      have HE2 := hide (bl_trans8 HE.out g2)
      clear g2 D2
      go_wp2
      go_ret
      exact ⟨rfl, HE2.out⟩
    · have i2 : decide (s2 < 0) = false := decide_eq_false (fun h => p2 (S2.1 h))
      rw [if_neg p2] at hR
      subst hR
      clear S1 S2 p1 p2
      go_enter Tryz.func62, Tryz.ntmps62
      go_wp2_with fail
      refine C.mono ?_
      rintro e t1 ⟨rfl, g1⟩
      have HE := hide (bl_trans8 HB.out g1)
      have D2 := C2.out t1 g1
      clear y0 y1 y2 y3 y4 y5
      obtain ⟨y0, y1, y2, y3, y4, y5⟩ := hexa (block_upW g1 HQ.out)
      clear g1 C
      go_wp2_with fail
      refine D2.mono ?_
      rintro e t2 ⟨rfl, g2⟩
      have HE2 := hide (bl_trans8 HE.out g2)
      clear g2 D2
      go_wp2
      go_ret
      exact ⟨rfl, HE2.out⟩

theorem cmpZ_le {y z : Int} : cmpZ y z ≤ 0 ↔ y ≤ z := by
  unfold cmpZ
  split
  · omega
  · split <;> omega

set_option maxRecDepth 20000 in
set_option maxHeartbeats 2000000 in
theorem lworst2 (gs : Nat) (f g : Int) (w : World) (hg : w.heap[gs]? = some (.cells #[.int .i64 f, .int .i64 g] 3)) :
    Calls Tryz.prog 17 #[.int .i64 0, .slice (some ⟨gs, 0, none⟩) 2 2] w fun e w' => e = .returned (.int .i64 (wst f g)) ∧ w' = w := by
  obtain ⟨c0, c1⟩ := duo hg
  have C := rfits_any 0 w
  rw [show fitE 0 = true by decide] at C
  clear hg
  unfold wst
  by_cases h1 : f = 0
  · subst h1
    rw [if_pos rfl]
    by_cases h2 : g = 0
    · subst h2
      go_enter Tryz.func17, Tryz.ntmps17
      go_wp2
      refine wp_loop_rounds 3 ?_
      rw [rounds_succ]
      go_wp2
      rw [rounds_succ]
      go_wp2
      rw [rounds_succ]
      go_wp2_with fail
      refine C.mono ?_
      rintro e wn ⟨rfl, hw⟩; rw [hw]; clear hw wn C
      go_wp2
      go_ret
      exact ⟨rfl, rfl⟩
    · have i2 : (g != 0) = true := by simpa using h2
      clear h2 C
      go_enter Tryz.func17, Tryz.ntmps17
      go_wp2
      refine wp_loop_rounds 3 ?_
      rw [rounds_succ]
      go_wp2
      rw [rounds_succ]
      go_wp2
      go_ret
      exact ⟨rfl, rfl⟩
  · rw [if_neg h1]
    have i1 : (f != 0) = true := by simpa using h1
    clear h1 C
    go_enter Tryz.func17, Tryz.ntmps17
    go_wp2
    refine wp_loop_rounds 3 ?_
    rw [rounds_succ]
    go_wp2
    go_ret
    exact ⟨rfl, rfl⟩

end Go.Proofs.YtppkhhbhnhijpaaGreatDoor
