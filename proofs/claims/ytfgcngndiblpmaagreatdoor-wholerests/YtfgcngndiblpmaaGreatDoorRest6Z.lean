/- The law's rest: is q b + r the number a. -/
import Derived.Test.YtfgcngndiblpmaaGreatDoorLWholeSumsZ
import Derived.Test.YtfgcngndiblpmaaGreatDoorQ3
import Derived.Test.YtfgcngndiblpmaaGreatDoorQ2
namespace Go.Proofs.YtfgcngndiblpmaaGreatDoor
open Go.RowKit
open Lm
attribute [local go_sem ↓] Go.wp_at_zero Go.wp_at_succ

theorem blen_mul6 (x y : Nat) : blen (x * y) ≤ blen x + blen y := by
  refine (blen_le_iff _ _).2 ?_
  have h1 := (blen_le_iff x _).1 (Nat.le_refl _)
  have h2 := (blen_le_iff y _).1 (Nat.le_refl _)
  rw [Nat.pow_add]
  exact Nat.mul_lt_mul_of_lt_of_lt h1 h2

theorem one_a {u tn : World} {z : Int} {b : Bool} {a : Option Addr} {n k : Nat} (y : Zn tn (.agg #[.bool b, .slice a n k]) z) (gn : Below u.heap.size u tn) :
    ∃ (g : Nat) (b' : Bool) (a' : Option Addr) (n' k' : Nat), Value.pointer (some ⟨tn.heap.size, 0, none⟩) = .pointer (some ⟨g, 0, none⟩) ∧ (tn.alloc (.cells #[.bool b, .slice a n k] 32)).heap[g]? = some (.cells #[.bool b', .slice a' n' k'] 32) ∧ Zn (tn.alloc (.cells #[.bool b, .slice a n k] 32)) (.agg #[.bool b', .slice a' n' k']) z ∧ Below u.heap.size u (tn.alloc (.cells #[.bool b, .slice a n k] 32)) :=
  ⟨_, b, a, n, k, rfl, heap_alloc_new _ _, y.below (below_one6 _ _), bl_alloc gn _⟩

theorem one_s {u tn : World} {z : Int} {g : Nat} {b : Bool} {a : Option Addr} {n k : Nat} (hq : tn.heap[g]? = some (.cells #[.bool false, .slice none 0 0] 32)) (y : Zn tn (.agg #[.bool b, .slice a n k]) z) (gn : Below u.heap.size u tn) (hg : u.heap.size ≤ g) :
    ∃ (g' : Nat) (b' : Bool) (a' : Option Addr) (n' k' : Nat), Value.pointer (some ⟨g, 0, none⟩) = .pointer (some ⟨g', 0, none⟩) ∧ ((tn.setCell ⟨g, 0, none⟩ (.bool b)).setCell ⟨g, 1, none⟩ (.slice a n k)).heap[g']? = some (.cells #[.bool b', .slice a' n' k'] 32) ∧ Zn ((tn.setCell ⟨g, 0, none⟩ (.bool b)).setCell ⟨g, 1, none⟩ (.slice a n k)) (.agg #[.bool b', .slice a' n' k']) z ∧ Below u.heap.size u ((tn.setCell ⟨g, 0, none⟩ (.bool b)).setCell ⟨g, 1, none⟩ (.slice a n k)) :=
  ⟨_, b, a, n, k, rfl, duo_all hq, y.duo hq, below_duo gn hg⟩

set_option maxRecDepth 20000 in
set_option maxHeartbeats 4000000 in
theorem wrest_ok (ba : Bool) (va : Value) (Xa : List Nat) (bb : Bool) (vb : Value) (Xb : List Nat) (bq : Bool) (vq : Value) (Xq : List Nat) (br : Bool) (vr : Value) (Xr : List Nat) (w : World) (hA : Arg w va Xa) (hB : Arg w vb Xb) (hQ : Arg w vq Xq) (hR : Arg w vr Xr)
    (la : Xa.length ≤ 17592186043904) (lb : Xb.length ≤ 17592186043904) (lq : Xq.length ≤ 17592186043904) (lr : Xr.length ≤ 17592186043904) (mb : blen (val Xb) ≤ 67108864) (mq : blen (val Xq) ≤ 67108864) (mr : blen (val Xr) ≤ 67108864) (he : zz bq (val Xq) * zz bb (val Xb) + zz br (val Xr) = zz ba (val Xa)) :
    Calls Tryz.prog 29 #[.agg #[.bool ba, va], .agg #[.bool bb, vb], .agg #[.bool bq, vq], .agg #[.bool br, vr]] w fun e w' => e = .returned (.bool true) ∧ Below w.heap.size w w' := by
  obtain ⟨aa, na, rfl, _, _, _⟩ := hA.form
  obtain ⟨ab, nb, rfl, _, _, _⟩ := hB.form
  obtain ⟨aq, nq, rfl, _, _, _⟩ := hQ.form
  obtain ⟨ar, nr, rfl, _, _, _⟩ := hR.form
  obtain ⟨w0, hw0, hb0, h0, h1, h2, h3⟩ := enter4 w (.cells #[.bool ba, .slice aa Xa.length na] 27) (.cells #[.bool bb, .slice ab Xb.length nb] 27) (.cells #[.bool bq, .slice aq Xq.length nq] 27) (.cells #[.bool br, .slice ar Xr.length nr] 27)
  have HA := hide h0
  have HB := hide h1
  have HQ := hide h2
  have HR := hide h3
  have HAa := hide (hA.below hb0)
  have HAb := hide (hB.below hb0)
  have HAq := hide (hQ.below hb0)
  have HAr := hide (hR.below hb0)
  have HW := hide hb0
  have e2 : blen (zz bb (val Xb)).natAbs ≤ 67108864 := by rw [zz_abs]; exact mb
  have e3 : blen (zz bq (val Xq)).natAbs ≤ 67108864 := by rw [zz_abs]; exact mq
  have e4 : blen (zz br (val Xr)).natAbs ≤ 67108864 := by rw [zz_abs]; exact mr
  clear hA hB hQ hR hb0 h0 h1 h2 h3 mb mq mr
  have OFa := hide (fun (W : World) (hg : Below w0.heap.size w0 W) => rzof_any ba _ Xa W (HAa.out.below hg) (by omega))
  have OFb := hide (fun (W : World) (hg : Below w0.heap.size w0 W) => rzof_any bb _ Xb W (HAb.out.below hg) (by omega))
  have OFq := hide (fun (W : World) (hg : Below w0.heap.size w0 W) => rzof_any bq _ Xq W (HAq.out.below hg) (by omega))
  have OFr := hide (fun (W : World) (hg : Below w0.heap.size w0 W) => rzof_any br _ Xr W (HAr.out.below hg) (by omega))
  generalize zz ba (val Xa) = zA at *
  generalize zz bb (val Xb) = zB at *
  generalize zz bq (val Xq) = zQ at *
  generalize zz br (val Xr) = zR at *
  have e5 : blen (zQ * zB).natAbs ≤ 134217728 := by
    rw [Int.natAbs_mul]
    have := blen_mul6 zQ.natAbs zB.natAbs
    omega
  have HE := hide he
  clear he
  have KS := hide (fun (W : World) (hg : Below w0.heap.size w0 W) => show W.cell? ⟨w.heap.size + 2, 0, none⟩ = some (.bool bq) ∧ W.cell? ⟨w.heap.size + 2, 1, none⟩ = some (.slice aq Xq.length nq) ∧ W.cell? ⟨w.heap.size + 1, 0, none⟩ = some (.bool bb) ∧ W.cell? ⟨w.heap.size + 1, 1, none⟩ = some (.slice ab Xb.length nb) ∧ W.cell? ⟨w.heap.size + 3, 0, none⟩ = some (.bool br) ∧ W.cell? ⟨w.heap.size + 3, 1, none⟩ = some (.slice ar Xr.length nr) from ⟨(duo (block_upW hg HQ.out)).1, (duo (block_upW hg HQ.out)).2, (duo (block_upW hg HB.out)).1, (duo (block_upW hg HB.out)).2, (duo (block_upW hg HR.out)).1, (duo (block_upW hg HR.out)).2⟩)
  go_enter Tryz.func29, Tryz.ntmps29
  go_upto_region 1 with fail
  go_cut [9] from 10 to 27 (fun s wx => ∃ (g : Nat) (b' : Bool) (a' : Option Addr) (n' k' : Nat), s = .pointer (some ⟨g, 0, none⟩) ∧ wx.heap[g]? = some (.cells #[.bool b', .slice a' n' k'] 32) ∧ Zn wx (.agg #[.bool b', .slice a' n' k']) zA ∧ Below w0.heap.size w0 wx)
  case first =>
    have g0 : Below w0.heap.size w0 w0.drew := (Below.refl _ _).drew
    go_region_held3 (fun w' => w'.cell? ⟨w.heap.size + 2, 0, none⟩ = some (.bool bq) ∧ w'.cell? ⟨w.heap.size + 2, 1, none⟩ = some (.slice aq Xq.length nq) ∧ w'.cell? ⟨w.heap.size + 1, 0, none⟩ = some (.bool bb) ∧ w'.cell? ⟨w.heap.size + 1, 1, none⟩ = some (.slice ab Xb.length nb) ∧ w'.cell? ⟨w.heap.size + 3, 0, none⟩ = some (.bool br) ∧ w'.cell? ⟨w.heap.size + 3, 1, none⟩ = some (.slice ar Xr.length nr)) (first
      | with_reducible exact KS.out _ g5 | with_reducible exact KS.out _ (bl_alloc g5 _) | with_reducible exact KS.out _ (below_duo g5 gz)
      | with_reducible exact KS.out _ g4 | with_reducible exact KS.out _ (bl_alloc g4 _)
      | with_reducible exact KS.out _ g3 | with_reducible exact KS.out _ (bl_alloc g3 _)
      | with_reducible exact KS.out _ g2 | with_reducible exact KS.out _ (bl_alloc g2 _)
      | with_reducible exact KS.out _ g1 | with_reducible exact KS.out _ (bl_alloc g1 _)
      | with_reducible exact KS.out _ g0 | with_reducible exact KS.out _ (bl_drew (bl_alloc (Below.refl _ _) _))) (first
      | (go_at_call_of 31 aq; refine (OFq.out _ (by first | with_reducible exact g0 | with_reducible exact bl_drew (bl_alloc (Below.refl _ _) _))).mono ?_; rintro e' t1 ⟨⟨b1, a1, n1, k1, rfl, y1⟩, hb1⟩; have g1 : Below w0.heap.size w0 t1 := bl_trans (by first | with_reducible exact g0 | with_reducible exact bl_drew (bl_alloc (Below.refl _ _) _)) hb1; (first | (with_reducible have hq1 := made1d hb1) | (with_reducible have hq1 := made1 hb1) | skip))
      | (go_at_call_of 31 ab; refine (OFb.out _ (by first | with_reducible exact g1 | with_reducible exact bl_alloc g1 _)).mono ?_; rintro e' t2 ⟨⟨b2, a2, n2, k2, rfl, y2⟩, hb2⟩; have s2 : Below t1.heap.size t1 t2 := bl_trans (by first | with_reducible exact Below.refl _ _ | with_reducible exact below_one6 _ _) hb2; have g2 := bl_trans g1 s2; have y12 := y1.below s2; (first | (with_reducible have hq2 := made1 hb2) | (with_reducible have hq2 := up0 hb2 hq1) | skip))
      | (go_at_call 45; refine (rzmul_any (.agg #[.bool b1, .slice a1 n1 k1]) (.agg #[.bool b2, .slice a2 n2 k2]) zQ zB _ (y12.below (by first | with_reducible exact Below.refl _ _ | with_reducible exact below_one6 _ _)) (y2.below (by first | with_reducible exact Below.refl _ _ | with_reducible exact below_one6 _ _)) (by omega)).mono ?_; rintro e' t3 ⟨⟨b3, a3, n3, k3, rfl, y3⟩, hb3⟩; have s3 : Below t2.heap.size t2 t3 := bl_trans (by first | with_reducible exact Below.refl _ _ | with_reducible exact below_one6 _ _) hb3; have g3 := bl_trans g2 s3; (first | (with_reducible have hq3 := made1 hb3) | (with_reducible have hq3 := up0 hb3 hq2) | skip))
      | (go_at_call_of 31 ar; refine (OFr.out _ (by first | with_reducible exact g3 | with_reducible exact bl_alloc g3 _)).mono ?_; rintro e' t4 ⟨⟨b4, a4, n4, k4, rfl, y4⟩, hb4⟩; have s4 : Below t3.heap.size t3 t4 := bl_trans (by first | with_reducible exact Below.refl _ _ | with_reducible exact below_one6 _ _) hb4; have g4 := bl_trans g3 s4; have y34 := y3.below s4; (first | (with_reducible have hq4 := made1 hb4) | (with_reducible have hq4 := up0 hb4 hq3) | skip))
      | (go_at_call 33; refine (rzadd_any (.agg #[.bool b3, .slice a3 n3 k3]) (.agg #[.bool b4, .slice a4 n4 k4]) (zQ * zB) zR _ (y34.below (by first | with_reducible exact Below.refl _ _ | with_reducible exact below_one6 _ _)) (y4.below (by first | with_reducible exact Below.refl _ _ | with_reducible exact below_one6 _ _)) (by omega) (by omega)).mono ?_; rintro e' t5 ⟨⟨b5, a5, n5, k5, rfl, y5⟩, hb5⟩; have s5 : Below t4.heap.size t4 t5 := bl_trans (by first | with_reducible exact Below.refl _ _ | with_reducible exact below_one6 _ _) hb5; have g5 := bl_trans g4 s5; rw [HE.out] at y5; (first | (with_reducible have hq5 := made1 hb5; have gz := g4.size) | (with_reducible have hq5 := up0 hb5 hq4; (first | (with_reducible have hx := made1 hb4; have gz := g3.size) | (with_reducible have hx := made1 hb3; have gz := g2.size) | (with_reducible have hx := made1 hb2; have gz := g1.size) | (with_reducible have hx := made1d hb1; have gz := Nat.le_refl w0.heap.size) | (with_reducible have hx := made1 hb1; have gz := g0.size))) | skip); (first | (obtain ⟨c0, c1⟩ := duo hq5; have cf := duof hq5) | skip)))
    all_goals (go_wp2_with fail; go_meet; first
      | with_reducible exact one_a y5 g5
      | with_reducible exact one_s hq5 y5 g5 gz)
  case rest =>
    obtain ⟨g, bp, ap, np, kp, rfl, hp, yp, hbx⟩ := hcut
    have hbd : Below wc.heap.size wc wc.drew := (Below.refl _ _).drew
    have gd := bl_trans hbx hbd
    have HP := hide (block_upW hbd hp)
    have HYP := hide (yp.below hbd)
    have KS2 := hide (fun (W : World) (hg : Below wc.drew.heap.size wc.drew W) => show W.cell? ⟨g, 0, none⟩ = some (.bool bp) ∧ W.cell? ⟨g, 1, none⟩ = some (.slice ap np kp) ∧ W.cell? ⟨w.heap.size, 0, none⟩ = some (.bool ba) ∧ W.cell? ⟨w.heap.size, 1, none⟩ = some (.slice aa Xa.length na) from ⟨(duo (block_upW hg HP.out)).1, (duo (block_upW hg HP.out)).2, (duo (block_upW (bl_trans gd hg) HA.out)).1, (duo (block_upW (bl_trans gd hg) HA.out)).2⟩)
    have HGD := hide (bl_trans HW.out gd)
    have g0 : Below wc.drew.heap.size wc.drew wc.drew := Below.refl _ _
    clear hp yp hbx hbd
    have hcz : cmpZ zA zA = 0 := by unfold cmpZ; simp
    go_wp2
    go_region_held3 (fun w' => w'.cell? ⟨g, 0, none⟩ = some (.bool bp) ∧ w'.cell? ⟨g, 1, none⟩ = some (.slice ap np kp) ∧ w'.cell? ⟨w.heap.size, 0, none⟩ = some (.bool ba) ∧ w'.cell? ⟨w.heap.size, 1, none⟩ = some (.slice aa Xa.length na)) (first | with_reducible exact KS2.out _ g2 | with_reducible exact KS2.out _ g1 | with_reducible exact KS2.out _ g0) (first
      | (go_at_call 31; refine (OFa.out wc.drew gd).mono ?_; rintro e' t1 ⟨⟨b1, a1, n1, k1, rfl, y1⟩, hb1⟩; have g1 := bl_trans g0 hb1)
      | (go_at_call 32; refine (rzcmp_any _ _ zA zA t1 (HYP.out.below g1) y1).mono ?_; rintro e' t2 ⟨rfl, hb2⟩; have g2 := bl_trans g1 hb2; rw [hcz]))
    have HFIN := hide (HGD.out.trans (g2.mono HGD.out.size))
    clear hb1 hb2 KS2
    go_wp2
    go_ret
    exact ⟨rfl, HFIN.out⟩

end Go.Proofs.YtfgcngndiblpmaaGreatDoor
