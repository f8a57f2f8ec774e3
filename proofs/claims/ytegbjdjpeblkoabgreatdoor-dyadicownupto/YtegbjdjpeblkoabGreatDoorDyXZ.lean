/- Package dyadic: times. -/
import Derived.Test.YtegbjdjpeblkoabGreatDoorDyV3Z
import Derived.Test.YtegbjdjpeblkoabGreatDoorQ2
import Derived.Deep.CutBlock
import Derived.Deep.DeepCutAuto
namespace Go.Proofs.YtegbjdjpeblkoabGreatDoor
open Go.RowKit
open Lm
attribute [local go_sem ↓] Go.wp_at_zero Go.wp_at_succ

theorem bl_alloc8 {W0 W : World} (h : Below W0.heap.size W0 W) (o : Obj) : Below W0.heap.size W0 (W.alloc o) := h.alloc h.size _
theorem bl_drew8 {W0 W : World} (h : Below W0.heap.size W0 W) : Below W0.heap.size W0 W.drew := h.drew
theorem made8 {W t : World} {o : Obj} (h : Below (W.alloc o).heap.size (W.alloc o) t) : t.heap[W.heap.size]? = some o := block_upW h (heap_alloc_new W o)
theorem made8d {W t : World} {o : Obj} (h : Below (W.alloc o).drew.heap.size (W.alloc o).drew t) : t.heap[W.heap.size]? = some o := block_upW h (heap_alloc_new W o)
theorem up8 {W t : World} {g : Nat} {x : Obj} (h : Below W.heap.size W t) (hx : W.heap[g]? = some x) : t.heap[g]? = some x := block_upW h hx

/-- A whole number in a new box, with its code. -/
def Box8 (u : World) (z : Int) (s t : Value) (wx : World) : Prop :=
  ∃ (g : Nat) (b : Bool) (a : Option Addr) (n k : Nat) (c : Int), s = .pointer (some ⟨g, 0, none⟩) ∧ t = .int .i64 c ∧ wx.heap[g]? = some (.cells #[.bool b, .slice a n k] 37) ∧ ZR wx u.heap.size b (.slice a n k) c z ∧ Below u.heap.size u wx

theorem box8_a {u tn : World} {z c : Int} {b : Bool} {a : Option Addr} {n k : Nat} (y : ZR tn u.heap.size b (.slice a n k) c z) (gn : Below u.heap.size u tn) :
    Box8 u z (.pointer (some ⟨tn.heap.size, 0, none⟩)) (.int .i64 c) (tn.alloc (.cells #[.bool b, .slice a n k] 37)) :=
  ⟨_, b, a, n, k, c, rfl, rfl, heap_alloc_new _ _, y.below (below_one6 _ _), bl_alloc8 gn _⟩

theorem box8_s {u tn : World} {z c : Int} {g : Nat} {b : Bool} {a : Option Addr} {n k : Nat} (hq : tn.heap[g]? = some (.cells #[.bool false, .slice none 0 0] 37)) (y : ZR tn u.heap.size b (.slice a n k) c z) (gn : Below u.heap.size u tn) (hg : u.heap.size ≤ g) :
    Box8 u z (.pointer (some ⟨g, 0, none⟩)) (.int .i64 c) ((tn.setCell ⟨g, 0, none⟩ (.bool b)).setCell ⟨g, 1, none⟩ (.slice a n k)) :=
  ⟨_, b, a, n, k, c, rfl, rfl, duo_all hq, y.duo hq, below_duo gn hg⟩

theorem nr8_mul {M1 E1 M2 E2 : Int} (h1 : Nr8 M1 E1) (h2 : Nr8 M2 E2) : omz (M1 * M2) = M1 * M2 := by
  rcases h1 with ⟨rfl, _⟩ | h1
  · rw [Int.zero_mul, omz_zero]
  · rcases h2 with ⟨rfl, _⟩ | h2
    · rw [Int.mul_zero, omz_zero]
    · refine (omz_odd ?_ 0).1
      rw [Int.natAbs_mul, Nat.mul_mod, h1, h2]

set_option maxRecDepth 20000 in
set_option maxHeartbeats 4000000 in
theorem ytimes_any (b1 : Bool) (a1 : Option Addr) (c1 : Nat) (X : List Nat) (M1 E1 : Int) (b2 : Bool) (a2 : Option Addr) (c2 : Nat) (Y : List Nat) (M2 E2 : Int) (w : World) (hT : Tab w) (h1 : Nm w b1 (.slice a1 X.length c1) X M1) (h2 : Nm w b2 (.slice a2 Y.length c2) Y M2) (n1 : Nr8 M1 E1) (n2 : Nr8 M2 E2) (f1 : X.length ≤ 17592186043904) (f2 : Y.length ≤ 17592186043904) (he1 : -1152921504606846976 ≤ E1) (he2 : E2 ≤ 1152921504606846976) (he3 : -1152921504606846976 ≤ E2) (he4 : E1 ≤ 1152921504606846976) :
    Calls Tryz.prog 30 #[.agg #[.bool b1, .slice a1 X.length c1, .int .i64 E1], .agg #[.bool b2, .slice a2 Y.length c2, .int .i64 E2]] w (YPlusV w (omz (M1 * M2)) (oe (M1 * M2) (E1 + E2))) := by
  obtain ⟨w0, hw0, hb0, k0, k1, k2⟩ := enter3 w (.cells #[.bool b1, .slice a1 X.length c1, .int .i64 E1] 63) (.cells #[.bool b2, .slice a2 Y.length c2, .int .i64 E2] 63) (.cells #[.bool false, .slice none 0 0, .int .i64 0] 63)
  have HK0 := hide k0
  have HK1 := hide k1
  have HK2 := hide k2
  have HB := hide hb0
  have HMM := hide (nr8_mul n1 n2)
  have wE : IntKind.i64.wrap (E1 + E2) = E1 + E2 := by rw [IntKind.wrap_i64]; omega
  have IN1 := hide (fun (W : World) => yman_any b1 a1 X.length c1 W)
  have IN2 := hide (fun (W : World) => yman_any b2 a2 Y.length c2 W)
  have WM := hide (fun (W : World) (hg : Below w.heap.size w W) => wmul_any b1 (.slice a1 X.length c1) X b2 (.slice a2 Y.length c2) Y W (h1.arg.below hg) (h2.arg.below hg) (hT.below hg) f1 f2)
  rw [h1.val, h2.val] at WM
  have KS := hide (fun (W : World) (hg : Below w0.heap.size w0 W) => show W.cell? ⟨w.heap.size, 0, none⟩ = some (.bool b1) ∧ W.cell? ⟨w.heap.size, 1, none⟩ = some (.slice a1 X.length c1) ∧ W.cell? ⟨w.heap.size + 1, 0, none⟩ = some (.bool b2) ∧ W.cell? ⟨w.heap.size + 1, 1, none⟩ = some (.slice a2 Y.length c2) from by
    obtain ⟨y0, y1, y2⟩ := tri8 (block_upW hg HK0.out)
    obtain ⟨y3, y4, y5⟩ := tri8 (block_upW hg HK1.out)
    exact ⟨y0, y1, y3, y4⟩)
  clear k0 k1 k2 hb0 h1 h2 n1 n2 hT
  generalize M1 * M2 = Z at *
  go_enter Tryz.func30, Tryz.ntmps30
  go_upto_region 1 with fail
  go_cut [6, 7] from 8 to 18 (fun s t wx => Box8 w0 Z s t wx)
  case first =>
    have g0 : Below w0.heap.size w0 w0.drew := (Below.refl _ _).drew
    go_region_held3 (fun w' => w'.cell? ⟨w.heap.size, 0, none⟩ = some (.bool b1) ∧ w'.cell? ⟨w.heap.size, 1, none⟩ = some (.slice a1 X.length c1) ∧ w'.cell? ⟨w.heap.size + 1, 0, none⟩ = some (.bool b2) ∧ w'.cell? ⟨w.heap.size + 1, 1, none⟩ = some (.slice a2 Y.length c2)) (first
      | with_reducible exact KS.out _ g3 | with_reducible exact KS.out _ (bl_alloc8 g3 _) | with_reducible exact KS.out _ (below_duo g3 gz)
      | with_reducible exact KS.out _ g2 | with_reducible exact KS.out _ (bl_alloc8 g2 _)
      | with_reducible exact KS.out _ g1 | with_reducible exact KS.out _ (bl_alloc8 g1 _)
      | with_reducible exact KS.out _ g0 | with_reducible exact KS.out _ (bl_drew8 (bl_alloc8 (Below.refl _ _) _))) (first
      | (go_at_call_of 58 a1; refine (IN1.out _).mono ?_; rintro e' t1 ⟨rfl, hb1⟩; have g1 : Below w0.heap.size w0 t1 := bl_trans8 (by first | with_reducible exact g0 | with_reducible exact bl_drew8 (bl_alloc8 (Below.refl _ _) _)) hb1; (first | (with_reducible have hq1 := made8d hb1) | (with_reducible have hq1 := made8 hb1) | skip))
      | (go_at_call_of 58 a2; refine (IN2.out _).mono ?_; rintro e' t2 ⟨rfl, hb2⟩; have s2 : Below t1.heap.size t1 t2 := bl_trans8 (by first | with_reducible exact Below.refl _ _ | with_reducible exact below_one6 _ _) hb2; have g2 := bl_trans8 g1 s2; (first | (with_reducible have hq2 := made8 hb2) | (with_reducible have hq2 := up8 hb2 hq1) | skip))
      | (go_at_call 57; refine (WM.out _ (bl_trans8 HB.out (by first | with_reducible exact g2 | with_reducible exact bl_alloc8 g2 _))).mono ?_; rintro e' t3 ⟨⟨b3, a3, n3, k3, c3, rfl, y3⟩, hb3⟩; have s3 : Below t2.heap.size t2 t3 := bl_trans8 (by first | with_reducible exact Below.refl _ _ | with_reducible exact below_one6 _ _) hb3; have g3 := bl_trans8 g2 s3; have yz := y3.base (by first | with_reducible exact g2.size | with_reducible exact (bl_alloc8 g2 _).size); (first | (with_reducible have hq3 := made8 hb3; have gz := g2.size) | (with_reducible have hq3 := up8 hb3 hq2; (first | (with_reducible have hx := made8 hb2; have gz := g1.size) | (with_reducible have hx := made8d hb1; have gz := Nat.le_refl w0.heap.size) | (with_reducible have hx := made8 hb1; have gz := g0.size))) | skip); (first | (obtain ⟨c0, c1⟩ := duo hq3; have cf := duof hq3) | skip)))
    all_goals (go_wp2_with fail; go_meet; first
      | with_reducible exact box8_a yz g3
      | with_reducible exact box8_s hq3 yz g3 gz)
  case rest =>
    obtain ⟨g, bp, ap, np, kp, cp, rfl, rfl, hp, yp, hbx⟩ := hcut
    have gd : Below w.heap.size w wc.drew := (bl_trans8 HB.out hbx).drew
    have g0 : Below wc.drew.heap.size wc.drew wc.drew := Below.refl _ _
    obtain ⟨rs, Ap, hcase⟩ := yp
    have hnp : np = rs.length := by obtain ⟨aa, cc, ee⟩ := Ap.shape; cases ee; rfl
    have hrl : rs.length ≤ 1048576 := by
      rcases hcase with ⟨_, _, q3, q4, q5⟩ | ⟨_, _, _, q4, _⟩
      · exact few_ofW q4 q3 (by omega)
      · rw [q4]; simp
    have htr : tr rs = rs := by
      rcases hcase with ⟨_, _, _, q4, _⟩ | ⟨_, _, _, q4, _⟩
      · exact q4
      · rw [q4]; rfl
    have Apd : Ans wc.drew w0.heap.size (.slice ap np kp) rs := Ap.below (Below.refl _ _).drew
    have HPO : Calls Tryz.prog 47 #[.agg #[.bool bp, .slice ap np kp]] wc.drew fun e w' => e = .returned (.agg #[.bool bp, .slice ap np kp]) ∧ Below wc.drew.heap.size wc.drew w' := by
      have h := ypartOf_any bp ap kp rs wc.drew (by rw [← hnp]; exact Apd.arg (by omega))
      rw [htr, ← hnp] at h
      exact h
    have HC2 := hide (show wc.drew.heap[w.heap.size + 1 + 1]? = some (.cells #[.bool false, .slice none 0 0, .int .i64 0] 63) from block_upW hbx.drew HK2.out)
    have KS2 := hide (fun (W : World) (hg : Below wc.drew.heap.size wc.drew W) => show W.cell? ⟨g, 0, none⟩ = some (.bool bp) ∧ W.cell? ⟨g, 1, none⟩ = some (.slice ap np kp) ∧ W.cell? ⟨w.heap.size, 2, none⟩ = some (.int .i64 E1) ∧ W.cell? ⟨w.heap.size + 1, 2, none⟩ = some (.int .i64 E2) from by
      obtain ⟨y0, y1⟩ := duo (block_upW hg (show wc.drew.heap[g]? = some (.cells #[.bool bp, .slice ap np kp] 37) from hp))
      obtain ⟨_, _, y2⟩ := tri8 (block_upW hg (show wc.drew.heap[w.heap.size]? = some (.cells #[.bool b1, .slice a1 X.length c1, .int .i64 E1] 63) from block_upW hbx.drew HK0.out))
      obtain ⟨_, _, y5⟩ := tri8 (block_upW hg (show wc.drew.heap[w.heap.size + 1]? = some (.cells #[.bool b2, .slice a2 Y.length c2, .int .i64 E2] 63) from block_upW hbx.drew HK1.out))
      exact ⟨y0, y1, y2, y5⟩)
    have hgne : w.heap.size + 1 + 1 ≠ g := by
      rintro rfl
      have h9 := block_upW hbx HK2.out
      have h10 := hp
      rw [show w.heap.size + 1 + 1 = w.heap.size + 2 from rfl] at h10
      rw [h9] at h10
      simp at h10
    have so : ∀ (W : World) (k : Nat) (u : Value) (k' : Nat), (W.setCell ⟨w.heap.size + 1 + 1, k, none⟩ u).cell? ⟨w.heap.size, k', none⟩ = W.cell? ⟨w.heap.size, k', none⟩ := fun W k u k' => cell_other8 (by omega)
    have so2 : ∀ (W : World) (k : Nat) (u : Value) (k' : Nat), (W.setCell ⟨w.heap.size + 1 + 1, k, none⟩ u).cell? ⟨w.heap.size + 1, k', none⟩ = W.cell? ⟨w.heap.size + 1, k', none⟩ := fun W k u k' => cell_other8 (by omega)
    have so3 : ∀ (W : World) (k : Nat) (u : Value) (k' : Nat), (W.setCell ⟨w.heap.size + 1 + 1, k, none⟩ u).cell? ⟨g, k', none⟩ = W.cell? ⟨g, k', none⟩ := fun W k u k' => cell_other8 hgne
    have HZR := hide (And.intro Apd (And.intro hcase (And.intro hnp (And.intro htr hrl))))
    have HGD := hide gd
    have HW0S := hide HB.out.size
    obtain ⟨y0, y1, y2, y3⟩ := KS2.out _ g0
    clear hp hbx Ap Apd hcase hnp htr hrl gd hgne KS IN1 IN2 WM
    go_wp2
    go_region_held3 (fun w' => w'.cell? ⟨g, 0, none⟩ = some (.bool bp) ∧ w'.cell? ⟨g, 1, none⟩ = some (.slice ap np kp) ∧ w'.cell? ⟨w.heap.size, 2, none⟩ = some (.int .i64 E1) ∧ w'.cell? ⟨w.heap.size + 1, 2, none⟩ = some (.int .i64 E2)) (first | with_reducible exact KS2.out _ g1 | with_reducible exact KS2.out _ g0 | (refine ⟨?_, ?_, ?_, ?_⟩ <;> (first | rw [so3, so3, so3] | rw [so, so, so] | rw [so2, so2, so2]) <;> first | exact (KS2.out _ g1).1 | exact (KS2.out _ g1).2.1 | exact (KS2.out _ g1).2.2.1 | exact (KS2.out _ g1).2.2.2)) (first
      | (go_at_call 47; refine HPO.mono ?_; rintro e' t6 ⟨rfl, g1⟩; have hz := block_upW g1 HC2.out; have hf := tri8f hz; obtain ⟨m0, m1, m2⟩ := tri8 hz))
    have T3 := tri8_all hz (.bool bp) (.slice ap np kp) (.int .i64 (E1 + E2))
    have T4 := below_tri8 (bl_trans8 HGD.out g1) (show w.heap.size ≤ w.heap.size + 1 + 1 by omega) (.bool bp) (.slice ap np kp) (.int .i64 (E1 + E2))
    have T5 := (HZR.out.1.below g1).tri8 hz (by decide) (.bool bp) (.slice ap np kp) (.int .i64 (E1 + E2))
    obtain ⟨p0, p1, p2⟩ := tri8 T3
    have HE := hide (And.intro T5 T4)
    clear T3 T4 T5 so so2 so3 m0 m1 m2 hf KS2 g0 g1 HPO hz
    generalize ((t6.setCell ⟨w.heap.size + 1 + 1, 0, none⟩ (.bool bp)).setCell ⟨w.heap.size + 1 + 1, 1, none⟩ (.slice ap np kp)).setCell ⟨w.heap.size + 1 + 1, 2, none⟩ (.int .i64 (E1 + E2)) = w5 at *
    go_wp2
    refine bodyPost_ret (v := .tuple #[.agg #[.bool bp, .slice ap np kp, .int .i64 (E1 + E2)], .int .i64 cp]) (by simp [results, Tryz.results30, go_sem, p0, p1, p2]) rfl ?_
    obtain ⟨_, hcase, hnp, htr, hrl⟩ := HZR.out
    refine ⟨⟨_, _, _, _, _, _, rfl, ?_⟩, HE.out.2⟩
    rcases hcase with ⟨q1, q2, q3, q4, q5⟩ | ⟨q1, q2, q3, q4, q5⟩
    · exact .inl ⟨q1, rs, Z, hnp, ⟨HE.out.1.arg (by omega), htr, by rw [q3, q2, zz_self]⟩, rfl, rfl, by omega, by omega, by omega⟩
    · exact .inr ⟨q1, by rw [HMM.out]; exact q5⟩

end Go.Proofs.YtegbjdjpeblkoabGreatDoor
