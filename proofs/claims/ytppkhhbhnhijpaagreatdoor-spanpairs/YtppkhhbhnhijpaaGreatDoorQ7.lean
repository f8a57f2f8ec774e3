/- The document's Floor. -/
import Derived.Test.YtppkhhbhnhijpaaGreatDoorQ3
import Derived.Test.YtppkhhbhnhijpaaGreatDoorQG
import Derived.Test.YtppkhhbhnhijpaaGreatDoorQ2
import Derived.Deep.CutBlock
import Derived.Deep.DeepCutAuto
import Derived.Test.YtppkhhbhnhijpaaGreatDoorQJ
namespace Go.Proofs.YtppkhhbhnhijpaaGreatDoor
open Go.RowKit
open Lm
attribute [local go_sem ↓] Go.wp_at_zero Go.wp_at_succ

theorem blen_mulW (x y : Nat) : blen (x * y) ≤ blen x + blen y := by
  refine (blen_le_iff _ _).2 ?_
  have h1 := (blen_le_iff x _).1 (Nat.le_refl _)
  have h2 := (blen_le_iff y _).1 (Nat.le_refl _)
  rw [Nat.pow_add]
  exact Nat.mul_lt_mul_of_lt_of_lt h1 h2

theorem bl_trans6 {W0 W t : World} (h : Below W0.heap.size W0 W) (h2 : Below W.heap.size W t) : Below W0.heap.size W0 t := h.trans (h2.mono h.size)

theorem blen_plusW {a b n : Nat} (ha : blen a ≤ n) (hb : blen b ≤ n) : blen (a + b) ≤ n + 1 := by
  refine (blen_le_iff _ _).2 ?_
  have h1 := (blen_le_iff a _).1 ha
  have h2 := (blen_le_iff b _).1 hb
  rw [Nat.pow_succ]
  omega

theorem pow_blenW (x : Nat) (h : x ≠ 0) : 2 ^ (blen x - 1) ≤ x := by
  rcases Nat.lt_or_ge x (2 ^ (blen x - 1)) with h1 | h1
  · have h2 := (blen_le_iff x (blen x - 1)).2 h1
    have h3 : blen x = 0 := by omega
    have h4 := (blen_le_iff x 0).1 (by omega)
    simp at h4
    exact absurd h4 h
  · exact h1

/-- A quotient and its divisor together are hardly longer than what was divided. -/
theorem quo_room {x y k q n : Nat} (hy : y ≠ 0) (hq : q ≤ x / y + k) (hk : k ≤ 2) (hx : blen x ≤ n) (hyb : blen y ≤ n) : blen q + blen y ≤ n + 5 := by
  have h1 : blen q ≤ blen (x / y) + 2 := by
    refine (blen_le_iff _ _).2 ?_
    have h1 := (blen_le_iff (x / y) _).1 (Nat.le_refl _)
    rw [Nat.pow_add]
    have := Nat.two_pow_pos (blen (x / y))
    omega
  have h2 : blen (x / y) + blen y ≤ n + 1 := by
    by_cases h0 : x / y = 0
    · have : blen (x / y) ≤ 0 := (blen_le_iff _ _).2 (by rw [h0]; decide)
      omega
    · have a := pow_blenW _ h0
      have b := pow_blenW _ hy
      have c := Nat.mul_le_mul a b
      have d := Nat.div_mul_le_self x y
      rw [← Nat.pow_add] at c
      have e := (blen_le_iff x _).1 hx
      have f : 2 ^ (blen (x / y) - 1 + (blen y - 1)) < 2 ^ n := by omega
      have g := (Nat.pow_lt_pow_iff_right (a := 2) (by omega)).1 f
      omega
  omega

/-- The quotient downwards, as the document reckons it. -/
def flq (y z : Int) : Int := zz (decide (y < 0) != decide (z < 0)) (y.natAbs / z.natAbs) - if decide (y.natAbs % z.natAbs ≠ 0) && (decide (y < 0) != decide (z < 0)) then 1 else 0

/-- Two of the document's numbers. -/
def ZnDone2 (w : World) (y z : Int) (e : Ending) (w' : World) : Prop :=
  (∃ b a n k b' a' n' k', e = .returned (.tuple #[.agg #[.bool b, .slice a n k], .agg #[.bool b', .slice a' n' k']]) ∧ Zn w' (.agg #[.bool b, .slice a n k]) y ∧ Zn w' (.agg #[.bool b', .slice a' n' k']) z) ∧ Below w.heap.size w w'

theorem quadZ {w : World} {g : Nat} {p p' : Bool} {a a' : Option Addr} {n k n' k' : Nat} {b1 b2 : Bool} {u1 u2 : Value} (h2 : w.heap[g]? = some (.cells #[.bool p, .slice a n k] 43)) (h3 : w.heap[g + 1]? = some (.cells #[.bool p', .slice a' n' k'] 43)) :
    ((((w.setCell ⟨g, 0, none⟩ (.bool b1)).setCell ⟨g, 1, none⟩ u1).setCell ⟨g + 1, 0, none⟩ (.bool b2)).setCell ⟨g + 1, 1, none⟩ u2).heap[g]? = some (.cells #[.bool b1, u1] 43) ∧
    ((((w.setCell ⟨g, 0, none⟩ (.bool b1)).setCell ⟨g, 1, none⟩ u1).setCell ⟨g + 1, 0, none⟩ (.bool b2)).setCell ⟨g + 1, 1, none⟩ u2).heap[g + 1]? = some (.cells #[.bool b2, u2] 43) ∧
    (∀ v z, Zn w v z → Zn ((((w.setCell ⟨g, 0, none⟩ (.bool b1)).setCell ⟨g, 1, none⟩ u1).setCell ⟨g + 1, 0, none⟩ (.bool b2)).setCell ⟨g + 1, 1, none⟩ u2) v z) := by
  have h4 := duo_other (u0 := .bool b1) (u1 := u1) h3 (show g + 1 ≠ g by omega)
  exact ⟨duo_other (duo_all h2) (by omega), duo_all h4, fun v z hz => (hz.duo h2).duo h4⟩

set_option maxRecDepth 20000 in
set_option maxHeartbeats 4000000 in
theorem rzfloor_any (v1 v2 : Value) (y z : Int) (w : World) (h1 : Zn w v1 y) (h2 : Zn w v2 z) (hz0 : z ≠ 0) (hf1 : blen y.natAbs ≤ 1125899906810000) (hf2 : blen z.natAbs ≤ 1125899906810000) :
    Calls Tryz.prog 79 #[v1, v2] w (ZnDone2 w (flq y z) (y - flq y z * z)) := by
  obtain ⟨b, a, n, k, rfl, hb, hn, hz⟩ := h1.parts
  obtain ⟨b2, a2, n2, k2, rfl, hb2, hn2, hz2⟩ := h2.parts
  obtain ⟨w0, hw0, hb0, c0, c1, c2, c3⟩ := enter4 w (.cells #[.bool b, .slice a n k] 43) (.cells #[.bool b2, .slice a2 n2 k2] 43) (.cells #[.bool false, .slice none 0 0] 43) (.cells #[.bool false, .slice none 0 0] 43)
  obtain ⟨d0, d1⟩ := duo c0
  obtain ⟨d2, d3⟩ := duo c1
  have HD := rdiv_any _ _ y.natAbs z.natAbs w0 (hn.below hb0) (hn2.below hb0) (by omega) (by omega) (by omega)
  have HB0 := hide hb0
  have HC0 := hide c0
  have HC1 := hide c1
  have HC2 := hide c2
  have HC3 := hide c3
  have HZ1 := hide (h1.below hb0)
  have HZ2 := hide (h2.below hb0)
  obtain ⟨sg, hsg, hsg2⟩ : ∃ sg, (b != b2) = sg ∧ (!(b == b2)) = sg := ⟨_, rfl, rfl⟩
  have hfl : flq y z = zz sg (y.natAbs / z.natAbs) - if decide (y.natAbs % z.natAbs ≠ 0) && sg then 1 else 0 := by
    unfold flq
    rw [← hb, ← hb2, hsg]
  have HFL := hide hfl
  clear h1 h2 hn hn2 hb0 c0 c1 c2 c3 hb hb2 hz hz2 hfl
  go_enter Tryz.func79, Tryz.ntmps79
  go_wp2_with fail
  refine HD.mono ?_
  rintro e t1 ⟨⟨vq, vr, rfl, nq, nr⟩, g1⟩
  obtain ⟨aq, mq, kq, rfl⟩ := nq.sl
  obtain ⟨ar, mr, kr, rfl⟩ := nr.sl
  have HM := rmake1_ok sg _ _ t1 nq
  have HNR := hide nr
  have HG1 := hide g1
  obtain ⟨e0, e1⟩ := duo (block_upW g1 HC0.out)
  obtain ⟨e2, e3⟩ := duo (block_upW g1 HC1.out)
  clear nq nr g1 HD d0 d1 d2 d3
  go_wp2_with fail
  refine HM.mono ?_
  rintro e t2 ⟨⟨bx, ax, mx, kx, rfl, hx⟩, g2⟩
  have g12 := bl_trans6 HG1.out g2
  obtain ⟨u2, hu2, hbu2, hxu2⟩ := enter1 t2 (.cells #[.bool bx, .slice ax mx kx] 43)
  have g13 := bl_trans6 g12 hbu2
  have HG12 := hide g12
  have HZE := zero_any _ (y.natAbs % z.natAbs) u2 (HNR.out.below (bl_trans6 g2 hbu2))
  have HX := hide (hx.below hbu2)
  have HBX := hide hxu2
  have HG := hide g13
  obtain ⟨f0, f1⟩ := duo (block_upW g13 HC0.out)
  obtain ⟨f2, f3⟩ := duo (block_upW g13 HC1.out)
  clear HM hx g2 g12 hbu2 hxu2 g13 e0 e1 e2 e3 HG1
  obtain ⟨rz, hrz⟩ : ∃ rz : Bool, ((y.natAbs % z.natAbs) == 0) = rz := ⟨_, rfl⟩
  rw [hrz] at HZE
  go_wp2_with fail
  refine HZE.mono ?_
  rintro e wn ⟨rfl, hw⟩; rw [hw]; clear hw wn HZE
  by_cases hc : rz = false ∧ sg = true
  · obtain ⟨rfl, rfl⟩ := hc
    have hfq : flq y z = zz true (y.natAbs / z.natAbs) - 1 := by
      rw [HFL.out]
      have h : ¬ y.natAbs % z.natAbs = 0 := by
        intro h
        rw [h] at hrz
        cases hrz
      simp [h]
    have HQB : Hid (blen (flq y z).natAbs + blen z.natAbs ≤ 1125899906840000) := hide (by
      have e : (flq y z).natAbs = y.natAbs / z.natAbs + 1 := by
        rw [hfq]
        generalize y.natAbs / z.natAbs = q
        simp only [zz, if_true]
        omega
      rw [e]
      have h3 := quo_room (x := y.natAbs) (y := z.natAbs) (k := 1) (q := y.natAbs / z.natAbs + 1) (by omega) (Nat.le_refl _) (by omega) hf1 hf2
      omega)
    have HFQ := hide hfq
    clear hfq hrz
    have I1 := rzint_any 1 u2.drew (by omega) (by omega)
    have hbq : blen (zz true (y.natAbs / z.natAbs)).natAbs ≤ 1125899906840000 := by
      rw [zz_abs]
      have := blen_mono (Nat.div_le_self y.natAbs z.natAbs)
      omega
    have hb1 : blen (Int.natAbs 1) ≤ 64 := by decide
    have S1 := hide (fun (W : World) (v : Value) (hg : Below u2.drew.heap.size u2.drew W) (hv : Zn W v 1) => rzsub_any (.agg #[.bool bx, .slice ax mx kx]) v (zz true (y.natAbs / z.natAbs)) 1 W (HX.out.drew6.below hg) hv hbq (by omega))
    have HT2 := hide (show Below t2.heap.size t2 u2 by rw [← hu2]; exact below_one6 _ _)
    obtain ⟨x0, x1⟩ := duo (show u2.drew.heap[t2.heap.size]? = some (.cells #[.bool bx, .slice ax mx kx] 43) from HBX.out)
    clear hbq
    go_upto_region 4 with fail
    go_cut [34] from 34 to 37 (fun _ wx => ∃ (bX : Bool) (aX : Option Addr) (mX kX : Nat), wx.heap[t2.heap.size]? = some (.cells #[.bool bX, .slice aX mX kX] 43) ∧ Zn wx (.agg #[.bool bX, .slice aX mX kX]) (flq y z) ∧ Below t2.heap.size t2 wx)
    case first =>
      go_region_with (first
        | (go_at_call 93; refine I1.mono ?_; rintro e' s1 ⟨⟨bi, ai, mi, ki, rfl, yi⟩, hs1⟩; have y0 := cell_up6 hs1 x0; have y1 := cell_up6 hs1 x1)
        | (go_at_call 105; refine (S1.out s1 _ hs1 yi).mono ?_; rintro e' s2 ⟨⟨bs, as9, ms, ks, rfl, ys⟩, hs2⟩; have hzx := block_upW hs2 (block_upW hs1 (show u2.drew.heap[t2.heap.size]? = some (.cells #[.bool bx, .slice ax mx kx] 43) from HBX.out)); have hfx := duof hzx; obtain ⟨w0', w1'⟩ := duo hzx))
      all_goals (go_wp2_with fail; go_meet)
      all_goals (refine ⟨bs, as9, ms, ks, duo_all hzx, ?_, below_duo (bl_trans6 (bl_trans6 HT2.out (Below.refl _ _).drew) (bl_trans6 hs1 hs2)) (Nat.le_refl _)⟩; rw [HFQ.out]; exact ys.duo hzx)
    case rest =>
      obtain ⟨bX, aX, mX, kX, BXF, ZXF, gx⟩ := hcut
      have gwc := bl_trans6 HG12.out gx
      have hbd : Below wc.heap.size wc wc.drew := (Below.refl _ _).drew
      have gd := bl_trans6 gwc hbd
      obtain ⟨j0, j1⟩ := duo (block_upW gd HC0.out)
      obtain ⟨j2, j3⟩ := duo (block_upW gd HC1.out)
      have hxd := block_upW hbd BXF
      obtain ⟨j4, j5⟩ := duo hxd
      have ZX := hide (ZXF.below hbd)
      have HMU := rzmul_any _ _ (flq y z) z wc.drew ZX.out (HZ2.out.below gd) (by have := HQB.out; omega)
      have HSU := hide (fun (W : World) (v : Value) (hg : Below wc.drew.heap.size wc.drew W) (hv : Zn W v (flq y z * z)) => rzsub_any (.agg #[.bool b, .slice a n k]) v y (flq y z * z) W ((HZ1.out.below gd).below hg) hv (by omega) (by have h1 := HQB.out; rw [Int.natAbs_mul]; have h2 := blen_mulW (flq y z).natAbs z.natAbs; omega))
      have hr2 := block_upW gd HC2.out
      have hr3 := block_upW gd HC3.out
      have HR2 := hide hr2
      have HR3 := hide hr3
      have HGD := hide (bl_trans6 HB0.out gd)
      have hlx : w.heap.size + 3 < t2.heap.size := lt_of_block (block_upW HG12.out HC3.out)
      have so0 : ∀ (W : World) (k : Nat) (u : Value) (k' : Nat), (W.setCell ⟨w.heap.size + 2, k, none⟩ u).cell? ⟨w.heap.size, k', none⟩ = W.cell? ⟨w.heap.size, k', none⟩ := fun W k u k' => cell_otherW (by omega)
      have so1 : ∀ (W : World) (k : Nat) (u : Value) (k' : Nat), (W.setCell ⟨w.heap.size + 2, k, none⟩ u).cell? ⟨w.heap.size + 1, k', none⟩ = W.cell? ⟨w.heap.size + 1, k', none⟩ := fun W k u k' => cell_otherW (by omega)
      have so2 : ∀ (W : World) (k : Nat) (u : Value) (k' : Nat), (W.setCell ⟨w.heap.size + 2, k, none⟩ u).cell? ⟨t2.heap.size, k', none⟩ = W.cell? ⟨t2.heap.size, k', none⟩ := fun W k u k' => cell_otherW (by omega)
      have so3 : ∀ (W : World) (k : Nat) (u : Value) (k' : Nat), (W.setCell ⟨w.heap.size + 2, k, none⟩ u).cell? ⟨w.heap.size + 3, k', none⟩ = W.cell? ⟨w.heap.size + 3, k', none⟩ := fun W k u k' => cell_otherW (by omega)
      have sp0 : ∀ (W : World) (k : Nat) (u : Value) (k' : Nat), (W.setCell ⟨w.heap.size + 3, k, none⟩ u).cell? ⟨w.heap.size, k', none⟩ = W.cell? ⟨w.heap.size, k', none⟩ := fun W k u k' => cell_otherW (by omega)
      have sp1 : ∀ (W : World) (k : Nat) (u : Value) (k' : Nat), (W.setCell ⟨w.heap.size + 3, k, none⟩ u).cell? ⟨w.heap.size + 1, k', none⟩ = W.cell? ⟨w.heap.size + 1, k', none⟩ := fun W k u k' => cell_otherW (by omega)
      have sp2 : ∀ (W : World) (k : Nat) (u : Value) (k' : Nat), (W.setCell ⟨w.heap.size + 3, k, none⟩ u).cell? ⟨t2.heap.size, k', none⟩ = W.cell? ⟨t2.heap.size, k', none⟩ := fun W k u k' => cell_otherW (by omega)
      clear hr2 hr3 hxd
      go_wp2
      go_region_held3 (fun w' => w'.cell? ⟨w.heap.size, 0, none⟩ = some (.bool b) ∧ w'.cell? ⟨w.heap.size, 1, none⟩ = some (.slice a n k) ∧ w'.cell? ⟨w.heap.size + 1, 0, none⟩ = some (.bool b2) ∧ w'.cell? ⟨w.heap.size + 1, 1, none⟩ = some (.slice a2 n2 k2) ∧ w'.cell? ⟨t2.heap.size, 0, none⟩ = some (.bool bX) ∧ w'.cell? ⟨t2.heap.size, 1, none⟩ = some (.slice aX mX kX)) (go_keep) (first
        | (go_at_call 106; refine HMU.mono ?_; rintro e' s1 ⟨⟨bp, ap, mp, kp, rfl, yp⟩, hs1⟩; have l0 := cell_up6 hs1 j0; have l1 := cell_up6 hs1 j1; have l2 := cell_up6 hs1 j2; have l3 := cell_up6 hs1 j3; have l4 := cell_up6 hs1 j4; have l5 := cell_up6 hs1 j5)
        | (go_at_call 105; refine (HSU.out s1 _ hs1 yp).mono ?_; rintro e' s2 ⟨⟨br, ar9, mr9, kr9, rfl, yr⟩, hs2⟩; have q0 := cell_up6 hs2 l0; have q1 := cell_up6 hs2 l1; have q2 := cell_up6 hs2 l2; have q3 := cell_up6 hs2 l3; have q4 := cell_up6 hs2 l4; have q5 := cell_up6 hs2 l5; have hz2 := block_upW hs2 (block_upW hs1 HR2.out); have hz3 := block_upW hs2 (block_upW hs1 HR3.out); have hf2' := duof hz2; have hf3' := duof hz3; obtain ⟨m0, m1⟩ := duo hz2; obtain ⟨m2, m3⟩ := duo hz3))
      have gs := bl_trans6 hs1 hs2
      have hq4 := quadZ (g := w.heap.size + 2) (b1 := bX) (u1 := .slice aX mX kX) (b2 := br) (u2 := .slice ar9 mr9 kr9) hz2 hz3
      have HE := hide (And.intro (hq4.2.2 _ _ (ZX.out.below gs)) (And.intro (hq4.2.2 _ _ yr) (quad_below (bl_trans6 HGD.out gs) (g := w.heap.size + 2) (u0 := .bool bX) (u1 := .slice aX mX kX) (u2 := .bool br) (u3 := .slice ar9 mr9 kr9) (by omega))))
      obtain ⟨R5, R6, _⟩ := hq4
      clear so0 so1 so2 so3 sp0 sp1 sp2 hz2 hz3 hf2' hf3' m0 m1 m2 m3 q0 q1 q2 q3 q4 q5 l0 l1 l2 l3 l4 l5 yr yp hs1 hs2 gs
      generalize (((s2.setCell ⟨w.heap.size + 2, 0, none⟩ (.bool bX)).setCell ⟨w.heap.size + 2, 1, none⟩ (.slice aX mX kX)).setCell ⟨w.heap.size + 2 + 1, 0, none⟩ (.bool br)).setCell ⟨w.heap.size + 2 + 1, 1, none⟩ (.slice ar9 mr9 kr9) = w5 at *
      obtain ⟨p0, p1⟩ := duo R5
      obtain ⟨p2, p3⟩ := duo R6
      go_wp2
      refine bodyPost_ret (v := .tuple #[.agg #[.bool bX, .slice aX mX kX], .agg #[.bool br, .slice ar9 mr9 kr9]]) (by simp [results, Tryz.results79, go_sem, p0, p1, p2, p3]) rfl ?_
      exact ⟨⟨_, _, _, _, _, _, _, _, rfl, HE.out.1, HE.out.2.1⟩, HE.out.2.2⟩
  · have hcd : (!rz && sg) = false := by
      rcases rz with _ | _ <;> rcases sg with _ | _ <;> simp_all
    have hfq : flq y z = zz sg (y.natAbs / z.natAbs) := by
      rw [HFL.out]
      have : (decide (y.natAbs % z.natAbs ≠ 0) && sg) = false := by
        rw [← hcd, ← hrz]
        congr 1
        by_cases h : y.natAbs % z.natAbs = 0 <;> simp [h]
      rw [this]; simp
    have HQB : Hid (blen (flq y z).natAbs + blen z.natAbs ≤ 1125899906840000) := hide (by
      rw [hfq, zz_abs]
      have h3 := quo_room (x := y.natAbs) (y := z.natAbs) (k := 0) (q := y.natAbs / z.natAbs) (by omega) (Nat.le_refl _) (by omega) hf1 hf2
      omega)
    have hX2 := HX.out
    rw [← hfq] at hX2
    have ZXF := hX2
    have BXF := HBX.out
    obtain ⟨bX, rfl⟩ : ∃ bX, bX = bx := ⟨_, rfl⟩
    obtain ⟨aX, rfl⟩ : ∃ aX, aX = ax := ⟨_, rfl⟩
    obtain ⟨mX, rfl⟩ : ∃ mX, mX = mx := ⟨_, rfl⟩
    obtain ⟨kX, rfl⟩ : ∃ kX, kX = kx := ⟨_, rfl⟩
    cases rz <;> cases sg <;> (try (exact absurd ⟨rfl, rfl⟩ hc))
    all_goals clear hcd hc hfq hX2
    · have hbd : Below u2.heap.size u2 u2.drew := (Below.refl _ _).drew
      have gd := bl_trans6 HG.out hbd
      obtain ⟨j0, j1⟩ := duo (block_upW gd HC0.out)
      obtain ⟨j2, j3⟩ := duo (block_upW gd HC1.out)
      have hxd := block_upW hbd BXF
      obtain ⟨j4, j5⟩ := duo hxd
      have ZX := hide (ZXF.below hbd)
      have HMU := rzmul_any _ _ (flq y z) z u2.drew ZX.out (HZ2.out.below gd) (by have := HQB.out; omega)
      have HSU := hide (fun (W : World) (v : Value) (hg : Below u2.drew.heap.size u2.drew W) (hv : Zn W v (flq y z * z)) => rzsub_any (.agg #[.bool b, .slice a n k]) v y (flq y z * z) W ((HZ1.out.below gd).below hg) hv (by omega) (by have h1 := HQB.out; rw [Int.natAbs_mul]; have h2 := blen_mulW (flq y z).natAbs z.natAbs; omega))
      have hr2 := block_upW gd HC2.out
      have hr3 := block_upW gd HC3.out
      have HR2 := hide hr2
      have HR3 := hide hr3
      have HGD := hide (bl_trans6 HB0.out gd)
      have hlx : w.heap.size + 3 < t2.heap.size := lt_of_block (block_upW HG12.out HC3.out)
      have so0 : ∀ (W : World) (k : Nat) (u : Value) (k' : Nat), (W.setCell ⟨w.heap.size + 2, k, none⟩ u).cell? ⟨w.heap.size, k', none⟩ = W.cell? ⟨w.heap.size, k', none⟩ := fun W k u k' => cell_otherW (by omega)
      have so1 : ∀ (W : World) (k : Nat) (u : Value) (k' : Nat), (W.setCell ⟨w.heap.size + 2, k, none⟩ u).cell? ⟨w.heap.size + 1, k', none⟩ = W.cell? ⟨w.heap.size + 1, k', none⟩ := fun W k u k' => cell_otherW (by omega)
      have so2 : ∀ (W : World) (k : Nat) (u : Value) (k' : Nat), (W.setCell ⟨w.heap.size + 2, k, none⟩ u).cell? ⟨t2.heap.size, k', none⟩ = W.cell? ⟨t2.heap.size, k', none⟩ := fun W k u k' => cell_otherW (by omega)
      have so3 : ∀ (W : World) (k : Nat) (u : Value) (k' : Nat), (W.setCell ⟨w.heap.size + 2, k, none⟩ u).cell? ⟨w.heap.size + 3, k', none⟩ = W.cell? ⟨w.heap.size + 3, k', none⟩ := fun W k u k' => cell_otherW (by omega)
      have sp0 : ∀ (W : World) (k : Nat) (u : Value) (k' : Nat), (W.setCell ⟨w.heap.size + 3, k, none⟩ u).cell? ⟨w.heap.size, k', none⟩ = W.cell? ⟨w.heap.size, k', none⟩ := fun W k u k' => cell_otherW (by omega)
      have sp1 : ∀ (W : World) (k : Nat) (u : Value) (k' : Nat), (W.setCell ⟨w.heap.size + 3, k, none⟩ u).cell? ⟨w.heap.size + 1, k', none⟩ = W.cell? ⟨w.heap.size + 1, k', none⟩ := fun W k u k' => cell_otherW (by omega)
      have sp2 : ∀ (W : World) (k : Nat) (u : Value) (k' : Nat), (W.setCell ⟨w.heap.size + 3, k, none⟩ u).cell? ⟨t2.heap.size, k', none⟩ = W.cell? ⟨t2.heap.size, k', none⟩ := fun W k u k' => cell_otherW (by omega)
      clear hr2 hr3 hxd
      go_wp2
      go_region_held3 (fun w' => w'.cell? ⟨w.heap.size, 0, none⟩ = some (.bool b) ∧ w'.cell? ⟨w.heap.size, 1, none⟩ = some (.slice a n k) ∧ w'.cell? ⟨w.heap.size + 1, 0, none⟩ = some (.bool b2) ∧ w'.cell? ⟨w.heap.size + 1, 1, none⟩ = some (.slice a2 n2 k2) ∧ w'.cell? ⟨t2.heap.size, 0, none⟩ = some (.bool bX) ∧ w'.cell? ⟨t2.heap.size, 1, none⟩ = some (.slice aX mX kX)) (go_keep) (first
        | (go_at_call 106; refine HMU.mono ?_; rintro e' s1 ⟨⟨bp, ap, mp, kp, rfl, yp⟩, hs1⟩; have l0 := cell_up6 hs1 j0; have l1 := cell_up6 hs1 j1; have l2 := cell_up6 hs1 j2; have l3 := cell_up6 hs1 j3; have l4 := cell_up6 hs1 j4; have l5 := cell_up6 hs1 j5)
        | (go_at_call 105; refine (HSU.out s1 _ hs1 yp).mono ?_; rintro e' s2 ⟨⟨br, ar9, mr9, kr9, rfl, yr⟩, hs2⟩; have q0 := cell_up6 hs2 l0; have q1 := cell_up6 hs2 l1; have q2 := cell_up6 hs2 l2; have q3 := cell_up6 hs2 l3; have q4 := cell_up6 hs2 l4; have q5 := cell_up6 hs2 l5; have hz2 := block_upW hs2 (block_upW hs1 HR2.out); have hz3 := block_upW hs2 (block_upW hs1 HR3.out); have hf2' := duof hz2; have hf3' := duof hz3; obtain ⟨m0, m1⟩ := duo hz2; obtain ⟨m2, m3⟩ := duo hz3))
      have gs := bl_trans6 hs1 hs2
      have hq4 := quadZ (g := w.heap.size + 2) (b1 := bX) (u1 := .slice aX mX kX) (b2 := br) (u2 := .slice ar9 mr9 kr9) hz2 hz3
      have HE := hide (And.intro (hq4.2.2 _ _ (ZX.out.below gs)) (And.intro (hq4.2.2 _ _ yr) (quad_below (bl_trans6 HGD.out gs) (g := w.heap.size + 2) (u0 := .bool bX) (u1 := .slice aX mX kX) (u2 := .bool br) (u3 := .slice ar9 mr9 kr9) (by omega))))
      obtain ⟨R5, R6, _⟩ := hq4
      clear so0 so1 so2 so3 sp0 sp1 sp2 hz2 hz3 hf2' hf3' m0 m1 m2 m3 q0 q1 q2 q3 q4 q5 l0 l1 l2 l3 l4 l5 yr yp hs1 hs2 gs
      generalize (((s2.setCell ⟨w.heap.size + 2, 0, none⟩ (.bool bX)).setCell ⟨w.heap.size + 2, 1, none⟩ (.slice aX mX kX)).setCell ⟨w.heap.size + 2 + 1, 0, none⟩ (.bool br)).setCell ⟨w.heap.size + 2 + 1, 1, none⟩ (.slice ar9 mr9 kr9) = w5 at *
      obtain ⟨p0, p1⟩ := duo R5
      obtain ⟨p2, p3⟩ := duo R6
      go_wp2
      refine bodyPost_ret (v := .tuple #[.agg #[.bool bX, .slice aX mX kX], .agg #[.bool br, .slice ar9 mr9 kr9]]) (by simp [results, Tryz.results79, go_sem, p0, p1, p2, p3]) rfl ?_
      exact ⟨⟨_, _, _, _, _, _, _, _, rfl, HE.out.1, HE.out.2.1⟩, HE.out.2.2⟩
    · have hbd : Below u2.heap.size u2 u2.drew := (Below.refl _ _).drew
      have gd := bl_trans6 HG.out hbd
      obtain ⟨j0, j1⟩ := duo (block_upW gd HC0.out)
      obtain ⟨j2, j3⟩ := duo (block_upW gd HC1.out)
      have hxd := block_upW hbd BXF
      obtain ⟨j4, j5⟩ := duo hxd
      have ZX := hide (ZXF.below hbd)
      have HMU := rzmul_any _ _ (flq y z) z u2.drew ZX.out (HZ2.out.below gd) (by have := HQB.out; omega)
      have HSU := hide (fun (W : World) (v : Value) (hg : Below u2.drew.heap.size u2.drew W) (hv : Zn W v (flq y z * z)) => rzsub_any (.agg #[.bool b, .slice a n k]) v y (flq y z * z) W ((HZ1.out.below gd).below hg) hv (by omega) (by have h1 := HQB.out; rw [Int.natAbs_mul]; have h2 := blen_mulW (flq y z).natAbs z.natAbs; omega))
      have hr2 := block_upW gd HC2.out
      have hr3 := block_upW gd HC3.out
      have HR2 := hide hr2
      have HR3 := hide hr3
      have HGD := hide (bl_trans6 HB0.out gd)
      have hlx : w.heap.size + 3 < t2.heap.size := lt_of_block (block_upW HG12.out HC3.out)
      have so0 : ∀ (W : World) (k : Nat) (u : Value) (k' : Nat), (W.setCell ⟨w.heap.size + 2, k, none⟩ u).cell? ⟨w.heap.size, k', none⟩ = W.cell? ⟨w.heap.size, k', none⟩ := fun W k u k' => cell_otherW (by omega)
      have so1 : ∀ (W : World) (k : Nat) (u : Value) (k' : Nat), (W.setCell ⟨w.heap.size + 2, k, none⟩ u).cell? ⟨w.heap.size + 1, k', none⟩ = W.cell? ⟨w.heap.size + 1, k', none⟩ := fun W k u k' => cell_otherW (by omega)
      have so2 : ∀ (W : World) (k : Nat) (u : Value) (k' : Nat), (W.setCell ⟨w.heap.size + 2, k, none⟩ u).cell? ⟨t2.heap.size, k', none⟩ = W.cell? ⟨t2.heap.size, k', none⟩ := fun W k u k' => cell_otherW (by omega)
      have so3 : ∀ (W : World) (k : Nat) (u : Value) (k' : Nat), (W.setCell ⟨w.heap.size + 2, k, none⟩ u).cell? ⟨w.heap.size + 3, k', none⟩ = W.cell? ⟨w.heap.size + 3, k', none⟩ := fun W k u k' => cell_otherW (by omega)
      have sp0 : ∀ (W : World) (k : Nat) (u : Value) (k' : Nat), (W.setCell ⟨w.heap.size + 3, k, none⟩ u).cell? ⟨w.heap.size, k', none⟩ = W.cell? ⟨w.heap.size, k', none⟩ := fun W k u k' => cell_otherW (by omega)
      have sp1 : ∀ (W : World) (k : Nat) (u : Value) (k' : Nat), (W.setCell ⟨w.heap.size + 3, k, none⟩ u).cell? ⟨w.heap.size + 1, k', none⟩ = W.cell? ⟨w.heap.size + 1, k', none⟩ := fun W k u k' => cell_otherW (by omega)
      have sp2 : ∀ (W : World) (k : Nat) (u : Value) (k' : Nat), (W.setCell ⟨w.heap.size + 3, k, none⟩ u).cell? ⟨t2.heap.size, k', none⟩ = W.cell? ⟨t2.heap.size, k', none⟩ := fun W k u k' => cell_otherW (by omega)
      clear hr2 hr3 hxd
      go_wp2
      go_region_held3 (fun w' => w'.cell? ⟨w.heap.size, 0, none⟩ = some (.bool b) ∧ w'.cell? ⟨w.heap.size, 1, none⟩ = some (.slice a n k) ∧ w'.cell? ⟨w.heap.size + 1, 0, none⟩ = some (.bool b2) ∧ w'.cell? ⟨w.heap.size + 1, 1, none⟩ = some (.slice a2 n2 k2) ∧ w'.cell? ⟨t2.heap.size, 0, none⟩ = some (.bool bX) ∧ w'.cell? ⟨t2.heap.size, 1, none⟩ = some (.slice aX mX kX)) (go_keep) (first
        | (go_at_call 106; refine HMU.mono ?_; rintro e' s1 ⟨⟨bp, ap, mp, kp, rfl, yp⟩, hs1⟩; have l0 := cell_up6 hs1 j0; have l1 := cell_up6 hs1 j1; have l2 := cell_up6 hs1 j2; have l3 := cell_up6 hs1 j3; have l4 := cell_up6 hs1 j4; have l5 := cell_up6 hs1 j5)
        | (go_at_call 105; refine (HSU.out s1 _ hs1 yp).mono ?_; rintro e' s2 ⟨⟨br, ar9, mr9, kr9, rfl, yr⟩, hs2⟩; have q0 := cell_up6 hs2 l0; have q1 := cell_up6 hs2 l1; have q2 := cell_up6 hs2 l2; have q3 := cell_up6 hs2 l3; have q4 := cell_up6 hs2 l4; have q5 := cell_up6 hs2 l5; have hz2 := block_upW hs2 (block_upW hs1 HR2.out); have hz3 := block_upW hs2 (block_upW hs1 HR3.out); have hf2' := duof hz2; have hf3' := duof hz3; obtain ⟨m0, m1⟩ := duo hz2; obtain ⟨m2, m3⟩ := duo hz3))
      have gs := bl_trans6 hs1 hs2
      have hq4 := quadZ (g := w.heap.size + 2) (b1 := bX) (u1 := .slice aX mX kX) (b2 := br) (u2 := .slice ar9 mr9 kr9) hz2 hz3
      have HE := hide (And.intro (hq4.2.2 _ _ (ZX.out.below gs)) (And.intro (hq4.2.2 _ _ yr) (quad_below (bl_trans6 HGD.out gs) (g := w.heap.size + 2) (u0 := .bool bX) (u1 := .slice aX mX kX) (u2 := .bool br) (u3 := .slice ar9 mr9 kr9) (by omega))))
      obtain ⟨R5, R6, _⟩ := hq4
      clear so0 so1 so2 so3 sp0 sp1 sp2 hz2 hz3 hf2' hf3' m0 m1 m2 m3 q0 q1 q2 q3 q4 q5 l0 l1 l2 l3 l4 l5 yr yp hs1 hs2 gs
      generalize (((s2.setCell ⟨w.heap.size + 2, 0, none⟩ (.bool bX)).setCell ⟨w.heap.size + 2, 1, none⟩ (.slice aX mX kX)).setCell ⟨w.heap.size + 2 + 1, 0, none⟩ (.bool br)).setCell ⟨w.heap.size + 2 + 1, 1, none⟩ (.slice ar9 mr9 kr9) = w5 at *
      obtain ⟨p0, p1⟩ := duo R5
      obtain ⟨p2, p3⟩ := duo R6
      go_wp2
      refine bodyPost_ret (v := .tuple #[.agg #[.bool bX, .slice aX mX kX], .agg #[.bool br, .slice ar9 mr9 kr9]]) (by simp [results, Tryz.results79, go_sem, p0, p1, p2, p3]) rfl ?_
      exact ⟨⟨_, _, _, _, _, _, _, _, rfl, HE.out.1, HE.out.2.1⟩, HE.out.2.2⟩
    · have hbd : Below u2.heap.size u2 u2.drew := (Below.refl _ _).drew
      have gd := bl_trans6 HG.out hbd
      obtain ⟨j0, j1⟩ := duo (block_upW gd HC0.out)
      obtain ⟨j2, j3⟩ := duo (block_upW gd HC1.out)
      have hxd := block_upW hbd BXF
      obtain ⟨j4, j5⟩ := duo hxd
      have ZX := hide (ZXF.below hbd)
      have HMU := rzmul_any _ _ (flq y z) z u2.drew ZX.out (HZ2.out.below gd) (by have := HQB.out; omega)
      have HSU := hide (fun (W : World) (v : Value) (hg : Below u2.drew.heap.size u2.drew W) (hv : Zn W v (flq y z * z)) => rzsub_any (.agg #[.bool b, .slice a n k]) v y (flq y z * z) W ((HZ1.out.below gd).below hg) hv (by omega) (by have h1 := HQB.out; rw [Int.natAbs_mul]; have h2 := blen_mulW (flq y z).natAbs z.natAbs; omega))
      have hr2 := block_upW gd HC2.out
      have hr3 := block_upW gd HC3.out
      have HR2 := hide hr2
      have HR3 := hide hr3
      have HGD := hide (bl_trans6 HB0.out gd)
      have hlx : w.heap.size + 3 < t2.heap.size := lt_of_block (block_upW HG12.out HC3.out)
      have so0 : ∀ (W : World) (k : Nat) (u : Value) (k' : Nat), (W.setCell ⟨w.heap.size + 2, k, none⟩ u).cell? ⟨w.heap.size, k', none⟩ = W.cell? ⟨w.heap.size, k', none⟩ := fun W k u k' => cell_otherW (by omega)
      have so1 : ∀ (W : World) (k : Nat) (u : Value) (k' : Nat), (W.setCell ⟨w.heap.size + 2, k, none⟩ u).cell? ⟨w.heap.size + 1, k', none⟩ = W.cell? ⟨w.heap.size + 1, k', none⟩ := fun W k u k' => cell_otherW (by omega)
      have so2 : ∀ (W : World) (k : Nat) (u : Value) (k' : Nat), (W.setCell ⟨w.heap.size + 2, k, none⟩ u).cell? ⟨t2.heap.size, k', none⟩ = W.cell? ⟨t2.heap.size, k', none⟩ := fun W k u k' => cell_otherW (by omega)
      have so3 : ∀ (W : World) (k : Nat) (u : Value) (k' : Nat), (W.setCell ⟨w.heap.size + 2, k, none⟩ u).cell? ⟨w.heap.size + 3, k', none⟩ = W.cell? ⟨w.heap.size + 3, k', none⟩ := fun W k u k' => cell_otherW (by omega)
      have sp0 : ∀ (W : World) (k : Nat) (u : Value) (k' : Nat), (W.setCell ⟨w.heap.size + 3, k, none⟩ u).cell? ⟨w.heap.size, k', none⟩ = W.cell? ⟨w.heap.size, k', none⟩ := fun W k u k' => cell_otherW (by omega)
      have sp1 : ∀ (W : World) (k : Nat) (u : Value) (k' : Nat), (W.setCell ⟨w.heap.size + 3, k, none⟩ u).cell? ⟨w.heap.size + 1, k', none⟩ = W.cell? ⟨w.heap.size + 1, k', none⟩ := fun W k u k' => cell_otherW (by omega)
      have sp2 : ∀ (W : World) (k : Nat) (u : Value) (k' : Nat), (W.setCell ⟨w.heap.size + 3, k, none⟩ u).cell? ⟨t2.heap.size, k', none⟩ = W.cell? ⟨t2.heap.size, k', none⟩ := fun W k u k' => cell_otherW (by omega)
      clear hr2 hr3 hxd
      go_wp2
      go_region_held3 (fun w' => w'.cell? ⟨w.heap.size, 0, none⟩ = some (.bool b) ∧ w'.cell? ⟨w.heap.size, 1, none⟩ = some (.slice a n k) ∧ w'.cell? ⟨w.heap.size + 1, 0, none⟩ = some (.bool b2) ∧ w'.cell? ⟨w.heap.size + 1, 1, none⟩ = some (.slice a2 n2 k2) ∧ w'.cell? ⟨t2.heap.size, 0, none⟩ = some (.bool bX) ∧ w'.cell? ⟨t2.heap.size, 1, none⟩ = some (.slice aX mX kX)) (go_keep) (first
        | (go_at_call 106; refine HMU.mono ?_; rintro e' s1 ⟨⟨bp, ap, mp, kp, rfl, yp⟩, hs1⟩; have l0 := cell_up6 hs1 j0; have l1 := cell_up6 hs1 j1; have l2 := cell_up6 hs1 j2; have l3 := cell_up6 hs1 j3; have l4 := cell_up6 hs1 j4; have l5 := cell_up6 hs1 j5)
        | (go_at_call 105; refine (HSU.out s1 _ hs1 yp).mono ?_; rintro e' s2 ⟨⟨br, ar9, mr9, kr9, rfl, yr⟩, hs2⟩; have q0 := cell_up6 hs2 l0; have q1 := cell_up6 hs2 l1; have q2 := cell_up6 hs2 l2; have q3 := cell_up6 hs2 l3; have q4 := cell_up6 hs2 l4; have q5 := cell_up6 hs2 l5; have hz2 := block_upW hs2 (block_upW hs1 HR2.out); have hz3 := block_upW hs2 (block_upW hs1 HR3.out); have hf2' := duof hz2; have hf3' := duof hz3; obtain ⟨m0, m1⟩ := duo hz2; obtain ⟨m2, m3⟩ := duo hz3))
      have gs := bl_trans6 hs1 hs2
      have hq4 := quadZ (g := w.heap.size + 2) (b1 := bX) (u1 := .slice aX mX kX) (b2 := br) (u2 := .slice ar9 mr9 kr9) hz2 hz3
      have HE := hide (And.intro (hq4.2.2 _ _ (ZX.out.below gs)) (And.intro (hq4.2.2 _ _ yr) (quad_below (bl_trans6 HGD.out gs) (g := w.heap.size + 2) (u0 := .bool bX) (u1 := .slice aX mX kX) (u2 := .bool br) (u3 := .slice ar9 mr9 kr9) (by omega))))
      obtain ⟨R5, R6, _⟩ := hq4
      clear so0 so1 so2 so3 sp0 sp1 sp2 hz2 hz3 hf2' hf3' m0 m1 m2 m3 q0 q1 q2 q3 q4 q5 l0 l1 l2 l3 l4 l5 yr yp hs1 hs2 gs
      generalize (((s2.setCell ⟨w.heap.size + 2, 0, none⟩ (.bool bX)).setCell ⟨w.heap.size + 2, 1, none⟩ (.slice aX mX kX)).setCell ⟨w.heap.size + 2 + 1, 0, none⟩ (.bool br)).setCell ⟨w.heap.size + 2 + 1, 1, none⟩ (.slice ar9 mr9 kr9) = w5 at *
      obtain ⟨p0, p1⟩ := duo R5
      obtain ⟨p2, p3⟩ := duo R6
      go_wp2
      refine bodyPost_ret (v := .tuple #[.agg #[.bool bX, .slice aX mX kX], .agg #[.bool br, .slice ar9 mr9 kr9]]) (by simp [results, Tryz.results79, go_sem, p0, p1, p2, p3]) rfl ?_
      exact ⟨⟨_, _, _, _, _, _, _, _, rfl, HE.out.1, HE.out.2.1⟩, HE.out.2.2⟩

end Go.Proofs.YtppkhhbhnhijpaaGreatDoor

/- The document's Ceil. -/
namespace Go.Proofs.YtppkhhbhnhijpaaGreatDoor
open Go.RowKit
open Lm
attribute [local go_sem ↓] Go.wp_at_zero Go.wp_at_succ

theorem flq_few (y z : Int) : (flq y z).natAbs ≤ y.natAbs / z.natAbs + 1 := by
  unfold flq
  generalize y.natAbs / z.natAbs = q
  generalize (decide (y < 0) != decide (z < 0)) = s
  generalize decide (y.natAbs % z.natAbs ≠ 0) = t
  cases s <;> cases t <;> simp [zz] <;> omega

theorem blen_next {x q k : Nat} (h : q ≤ x + k) (hk : k ≤ 2) : blen q ≤ blen x + 2 := by
  refine (blen_le_iff _ _).2 ?_
  have h1 := (blen_le_iff x _).1 (Nat.le_refl _)
  rw [Nat.pow_add]
  have := Nat.two_pow_pos (blen x)
  omega

/-- The quotient upwards, as the document reckons it. -/
def ceq (y z : Int) : Int := if y - flq y z * z = 0 then flq y z else flq y z + 1

set_option maxRecDepth 20000 in
set_option maxHeartbeats 4000000 in
theorem rzceil_any (v1 v2 : Value) (y z : Int) (w : World) (h1 : Zn w v1 y) (h2 : Zn w v2 z) (hz0 : z ≠ 0) (hf1 : blen y.natAbs ≤ 1125899906810000) (hf2 : blen z.natAbs ≤ 1125899906810000) :
    Calls Tryz.prog 80 #[v1, v2] w (ZnDone2 w (ceq y z) (y - ceq y z * z)) := by
  obtain ⟨b, a, n, k, rfl, hb, hn, hz⟩ := h1.parts
  obtain ⟨b2, a2, n2, k2, rfl, hb2, hn2, hz2⟩ := h2.parts
  obtain ⟨w0, hw0, hb0, c0, c1, c2, c3⟩ := enter4 w (.cells #[.bool b, .slice a n k] 43) (.cells #[.bool b2, .slice a2 n2 k2] 43) (.cells #[.bool false, .slice none 0 0] 43) (.cells #[.bool false, .slice none 0 0] 43)
  obtain ⟨d0, d1⟩ := duo c0
  obtain ⟨d2, d3⟩ := duo c1
  have HD := rzfloor_any _ _ y z w0 (h1.below hb0) (h2.below hb0) hz0 hf1 hf2
  have HB0 := hide hb0
  have HC0 := hide c0
  have HC1 := hide c1
  have HC2 := hide c2
  have HC3 := hide c3
  have HZ1 := hide (h1.below hb0)
  have HZ2 := hide (h2.below hb0)
  have hfq := flq_few y z
  have hdq := Nat.div_le_self y.natAbs z.natAbs
  have hbq := blen_next (x := y.natAbs) (q := (flq y z).natAbs) (k := 1) (by omega) (by omega)
  clear h1 h2 hn hn2 hb0 c0 c1 c2 c3 hb hb2 hz hz2
  by_cases hr0 : y - flq y z * z = 0
  · have hce : ceq y z = flq y z := if_pos hr0
    rw [hce]
    go_enter Tryz.func80, Tryz.ntmps80
    go_wp2_with fail
    refine HD.mono ?_
    rintro e t1 ⟨⟨bX, aX, mX, kX, br, ar9, mr9, kr9, rfl, zq, zr⟩, g1⟩
    obtain ⟨u2, hu2, hbu2, hxu, hyu⟩ := enter2 t1 (.cells #[.bool bX, .slice aX mX kX] 43) (.cells #[.bool br, .slice ar9 mr9 kr9] 43)
    obtain ⟨e0, e1⟩ := duo hyu
    have HS := rzsign_any _ _ u2 (zr.below hbu2)
    rw [hr0, Int.sign_zero] at HS
    have HZQ := hide (zq.below hbu2)
    have HZR := hide (zr.below hbu2)
    have HXU := hide hxu
    have HYU := hide hyu
    have HG := hide (bl_trans6 g1 hbu2)
    have HG1 := hide g1
    clear HD d0 d1 d2 d3 zq zr hbu2 hxu hyu g1
    go_wp2_with fail
    refine HS.mono ?_
    rintro e t3 ⟨rfl, g3⟩
    have gg := bl_trans6 HG.out g3
    obtain ⟨f0, f1⟩ := duo (block_upW g3 HXU.out)
    obtain ⟨f2, f3⟩ := duo (block_upW g3 HYU.out)
    have hz2 := block_upW gg HC2.out
    have hz3 := block_upW gg HC3.out
    have hf2' := duof hz2
    have hf3' := duof hz3
    obtain ⟨m0, m1⟩ := duo hz2
    obtain ⟨m2, m3⟩ := duo hz3
    have hlx : w.heap.size + 3 < t1.heap.size := lt_of_block (block_upW HG1.out HC3.out)
    have so1 : ∀ (W : World) (k : Nat) (u : Value) (k' : Nat), (W.setCell ⟨w.heap.size + 2, k, none⟩ u).cell? ⟨t1.heap.size, k', none⟩ = W.cell? ⟨t1.heap.size, k', none⟩ := fun W k u k' => cell_otherW (by omega)
    have so2 : ∀ (W : World) (k : Nat) (u : Value) (k' : Nat), (W.setCell ⟨w.heap.size + 2, k, none⟩ u).cell? ⟨t1.heap.size + 1, k', none⟩ = W.cell? ⟨t1.heap.size + 1, k', none⟩ := fun W k u k' => cell_otherW (by omega)
    have so3 : ∀ (W : World) (k : Nat) (u : Value) (k' : Nat), (W.setCell ⟨w.heap.size + 2, k, none⟩ u).cell? ⟨w.heap.size + 3, k', none⟩ = W.cell? ⟨w.heap.size + 3, k', none⟩ := fun W k u k' => cell_otherW (by omega)
    have so4 : ∀ (W : World) (k : Nat) (u : Value) (k' : Nat), (W.setCell ⟨w.heap.size + 3, k, none⟩ u).cell? ⟨t1.heap.size, k', none⟩ = W.cell? ⟨t1.heap.size, k', none⟩ := fun W k u k' => cell_otherW (by omega)
    have so5 : ∀ (W : World) (k : Nat) (u : Value) (k' : Nat), (W.setCell ⟨w.heap.size + 3, k, none⟩ u).cell? ⟨t1.heap.size + 1, k', none⟩ = W.cell? ⟨t1.heap.size + 1, k', none⟩ := fun W k u k' => cell_otherW (by omega)
    have so6 : ∀ (W : World) (k : Nat) (u : Value) (k' : Nat), (W.setCell ⟨w.heap.size + 3, k, none⟩ u).cell? ⟨w.heap.size + 2, k', none⟩ = W.cell? ⟨w.heap.size + 2, k', none⟩ := fun W k u k' => cell_otherW (by omega)
    have hq4 := quadZ (g := w.heap.size + 2) (b1 := bX) (u1 := .slice aX mX kX) (b2 := br) (u2 := .slice ar9 mr9 kr9) hz2 hz3
    have HE := hide (And.intro (hq4.2.2 _ _ (HZQ.out.below g3)) (And.intro (hq4.2.2 _ _ (HZR.out.below g3)) (quad_below (bl_trans6 HB0.out gg) (g := w.heap.size + 2) (u0 := .bool bX) (u1 := .slice aX mX kX) (u2 := .bool br) (u3 := .slice ar9 mr9 kr9) (by omega))))
    obtain ⟨R5, R6, _⟩ := hq4
    clear hz2 hz3 gg g3 HS HG
    go_wp2
    go_region
    all_goals (
      clear so1 so2 so3 so4 so5 so6 hf2' hf3' m0 m1 m2 m3 f0 f1 f2 f3
      generalize (((t3.setCell ⟨w.heap.size + 2, 0, none⟩ (.bool bX)).setCell ⟨w.heap.size + 2, 1, none⟩ (.slice aX mX kX)).setCell ⟨w.heap.size + 2 + 1, 0, none⟩ (.bool br)).setCell ⟨w.heap.size + 2 + 1, 1, none⟩ (.slice ar9 mr9 kr9) = w5 at *
      obtain ⟨p0, p1⟩ := duo (show w5.drew.heap[w.heap.size + 2]? = _ from R5)
      obtain ⟨p2, p3⟩ := duo (show w5.drew.heap[w.heap.size + 2 + 1]? = _ from R6)
      go_wp2
      refine bodyPost_ret (v := .tuple #[.agg #[.bool bX, .slice aX mX kX], .agg #[.bool br, .slice ar9 mr9 kr9]]) (by simp [results, Tryz.results80, go_sem, p0, p1, p2, p3]) rfl ?_
      exact ⟨⟨_, _, _, _, _, _, _, _, rfl, HE.out.1.drew6, HE.out.2.1.drew6⟩, HE.out.2.2.drew⟩)
  · have hce : ceq y z = flq y z + 1 := if_neg hr0
    have HQB : Hid (blen (ceq y z).natAbs + blen z.natAbs ≤ 1125899906840000) := hide (by
      have h := quo_room (x := y.natAbs) (y := z.natAbs) (q := (ceq y z).natAbs) (k := 2) (by omega) (by rw [hce]; omega) (by omega) hf1 hf2
      omega)
    have HFQ := hide hce
    obtain ⟨rs, hrs, hrs0⟩ : ∃ rs : Int, (y - flq y z * z).sign = rs ∧ (rs == 0) = false := ⟨_, rfl, by
      rw [beq_eq_false_iff_ne]
      exact fun h => hr0 (Int.sign_eq_zero_iff_zero.1 h)⟩
    clear hce hr0
    go_enter Tryz.func80, Tryz.ntmps80
    go_wp2_with fail
    refine HD.mono ?_
    rintro e t1 ⟨⟨bx, ax, mx, kx, br0, ar0, mr0, kr0, rfl, zq, zr⟩, g1⟩
    obtain ⟨u2, hu2, hbu2, hxu, hyu⟩ := enter2 t1 (.cells #[.bool bx, .slice ax mx kx] 43) (.cells #[.bool br0, .slice ar0 mr0 kr0] 43)
    obtain ⟨e0, e1⟩ := duo hyu
    have HS := rzsign_any _ _ u2 (zr.below hbu2)
    rw [hrs] at HS
    have HZQ := hide (zq.below hbu2)
    have HXU := hide hxu
    have HU2 := hide hbu2
    have HG1 := hide g1
    clear HD d0 d1 d2 d3 zq zr hbu2 hxu hyu g1 hrs
    go_wp2_with fail
    refine HS.mono ?_
    rintro e t3 ⟨rfl, g3⟩
    have HG3 := hide (bl_trans6 HU2.out g3)
    have HX3 := hide (block_upW g3 HXU.out)
    have HZ3 := hide (HZQ.out.below g3)
    have I1 := rzint_any 1 t3.drew (by omega) (by omega)
    have hb1 : blen (Int.natAbs 1) ≤ 64 := by decide
    have S1 := hide (fun (W : World) (v : Value) (hg : Below t3.drew.heap.size t3.drew W) (hv : Zn W v 1) => rzadd_any (.agg #[.bool bx, .slice ax mx kx]) v (flq y z) 1 W (HZ3.out.drew6.below hg) hv (by omega) (by omega))
    obtain ⟨x0, x1⟩ := duo (show t3.drew.heap[t1.heap.size]? = some (.cells #[.bool bx, .slice ax mx kx] 43) from HX3.out)
    clear g3 HS HZQ HXU e0 e1 hu2
    go_upto_region 4 with fail
    go_cut [19] from 19 to 22 (fun _ wx => ∃ (bX : Bool) (aX : Option Addr) (mX kX : Nat), wx.heap[t1.heap.size]? = some (.cells #[.bool bX, .slice aX mX kX] 43) ∧ Zn wx (.agg #[.bool bX, .slice aX mX kX]) (ceq y z) ∧ Below t1.heap.size t1 wx)
    case first =>
      go_region_with (first
        | (go_at_call 93; refine I1.mono ?_; rintro e' s1 ⟨⟨bi, ai, mi, ki, rfl, yi⟩, hs1⟩; have y0 := cell_up6 hs1 x0; have y1 := cell_up6 hs1 x1)
        | (go_at_call 102; refine (S1.out s1 _ hs1 yi).mono ?_; rintro e' s2 ⟨⟨bs, as9, ms, ks, rfl, ys⟩, hs2⟩; have hzx := block_upW hs2 (block_upW hs1 (show t3.drew.heap[t1.heap.size]? = some (.cells #[.bool bx, .slice ax mx kx] 43) from HX3.out)); have hfx := duof hzx; obtain ⟨w0', w1'⟩ := duo hzx))
      all_goals (go_wp2_with fail; go_meet)
      all_goals (refine ⟨bs, as9, ms, ks, duo_all hzx, ?_, below_duo (bl_trans6 (bl_trans6 HG3.out (Below.refl _ _).drew) (bl_trans6 hs1 hs2)) (Nat.le_refl _)⟩; rw [HFQ.out]; exact ys.duo hzx)
    case rest =>
      obtain ⟨bX, aX, mX, kX, BXF, ZXF, gx⟩ := hcut
      have gwc := bl_trans6 HG1.out gx
      have hbd : Below wc.heap.size wc wc.drew := (Below.refl _ _).drew
      have gd := bl_trans6 gwc hbd
      obtain ⟨j0, j1⟩ := duo (block_upW gd HC0.out)
      obtain ⟨j2, j3⟩ := duo (block_upW gd HC1.out)
      have hxd := block_upW hbd BXF
      obtain ⟨j4, j5⟩ := duo hxd
      have ZX := hide (ZXF.below hbd)
      have HMU := rzmul_any _ _ (ceq y z) z wc.drew ZX.out (HZ2.out.below gd) (by have := HQB.out; omega)
      have HSU := hide (fun (W : World) (v : Value) (hg : Below wc.drew.heap.size wc.drew W) (hv : Zn W v (ceq y z * z)) => rzsub_any (.agg #[.bool b, .slice a n k]) v y (ceq y z * z) W ((HZ1.out.below gd).below hg) hv (by omega) (by have h1 := HQB.out; rw [Int.natAbs_mul]; have h2 := blen_mulW (ceq y z).natAbs z.natAbs; omega))
      have hr2 := block_upW gd HC2.out
      have hr3 := block_upW gd HC3.out
      have HR2 := hide hr2
      have HR3 := hide hr3
      have HGD := hide (bl_trans6 HB0.out gd)
      have hlx : w.heap.size + 3 < t1.heap.size := lt_of_block (block_upW HG1.out HC3.out)
      have so0 : ∀ (W : World) (k : Nat) (u : Value) (k' : Nat), (W.setCell ⟨w.heap.size + 2, k, none⟩ u).cell? ⟨w.heap.size, k', none⟩ = W.cell? ⟨w.heap.size, k', none⟩ := fun W k u k' => cell_otherW (by omega)
      have so1 : ∀ (W : World) (k : Nat) (u : Value) (k' : Nat), (W.setCell ⟨w.heap.size + 2, k, none⟩ u).cell? ⟨w.heap.size + 1, k', none⟩ = W.cell? ⟨w.heap.size + 1, k', none⟩ := fun W k u k' => cell_otherW (by omega)
      have so2 : ∀ (W : World) (k : Nat) (u : Value) (k' : Nat), (W.setCell ⟨w.heap.size + 2, k, none⟩ u).cell? ⟨t1.heap.size, k', none⟩ = W.cell? ⟨t1.heap.size, k', none⟩ := fun W k u k' => cell_otherW (by omega)
      have so3 : ∀ (W : World) (k : Nat) (u : Value) (k' : Nat), (W.setCell ⟨w.heap.size + 2, k, none⟩ u).cell? ⟨w.heap.size + 3, k', none⟩ = W.cell? ⟨w.heap.size + 3, k', none⟩ := fun W k u k' => cell_otherW (by omega)
      have sp0 : ∀ (W : World) (k : Nat) (u : Value) (k' : Nat), (W.setCell ⟨w.heap.size + 3, k, none⟩ u).cell? ⟨w.heap.size, k', none⟩ = W.cell? ⟨w.heap.size, k', none⟩ := fun W k u k' => cell_otherW (by omega)
      have sp1 : ∀ (W : World) (k : Nat) (u : Value) (k' : Nat), (W.setCell ⟨w.heap.size + 3, k, none⟩ u).cell? ⟨w.heap.size + 1, k', none⟩ = W.cell? ⟨w.heap.size + 1, k', none⟩ := fun W k u k' => cell_otherW (by omega)
      have sp2 : ∀ (W : World) (k : Nat) (u : Value) (k' : Nat), (W.setCell ⟨w.heap.size + 3, k, none⟩ u).cell? ⟨t1.heap.size, k', none⟩ = W.cell? ⟨t1.heap.size, k', none⟩ := fun W k u k' => cell_otherW (by omega)
      clear hr2 hr3 hxd
      go_wp2
      go_region_held3 (fun w' => w'.cell? ⟨w.heap.size, 0, none⟩ = some (.bool b) ∧ w'.cell? ⟨w.heap.size, 1, none⟩ = some (.slice a n k) ∧ w'.cell? ⟨w.heap.size + 1, 0, none⟩ = some (.bool b2) ∧ w'.cell? ⟨w.heap.size + 1, 1, none⟩ = some (.slice a2 n2 k2) ∧ w'.cell? ⟨t1.heap.size, 0, none⟩ = some (.bool bX) ∧ w'.cell? ⟨t1.heap.size, 1, none⟩ = some (.slice aX mX kX)) (go_keep) (first
        | (go_at_call 106; refine HMU.mono ?_; rintro e' s1 ⟨⟨bp, ap, mp, kp, rfl, yp⟩, hs1⟩; have l0 := cell_up6 hs1 j0; have l1 := cell_up6 hs1 j1; have l2 := cell_up6 hs1 j2; have l3 := cell_up6 hs1 j3; have l4 := cell_up6 hs1 j4; have l5 := cell_up6 hs1 j5)
        | (go_at_call 105; refine (HSU.out s1 _ hs1 yp).mono ?_; rintro e' s2 ⟨⟨br, ar9, mr9, kr9, rfl, yr⟩, hs2⟩; have q0 := cell_up6 hs2 l0; have q1 := cell_up6 hs2 l1; have q2 := cell_up6 hs2 l2; have q3 := cell_up6 hs2 l3; have q4 := cell_up6 hs2 l4; have q5 := cell_up6 hs2 l5; have hz2 := block_upW hs2 (block_upW hs1 HR2.out); have hz3 := block_upW hs2 (block_upW hs1 HR3.out); have hf2' := duof hz2; have hf3' := duof hz3; obtain ⟨m0, m1⟩ := duo hz2; obtain ⟨m2, m3⟩ := duo hz3))
      have gs := bl_trans6 hs1 hs2
      have hq4 := quadZ (g := w.heap.size + 2) (b1 := bX) (u1 := .slice aX mX kX) (b2 := br) (u2 := .slice ar9 mr9 kr9) hz2 hz3
      have HE := hide (And.intro (hq4.2.2 _ _ (ZX.out.below gs)) (And.intro (hq4.2.2 _ _ yr) (quad_below (bl_trans6 HGD.out gs) (g := w.heap.size + 2) (u0 := .bool bX) (u1 := .slice aX mX kX) (u2 := .bool br) (u3 := .slice ar9 mr9 kr9) (by omega))))
      obtain ⟨R5, R6, _⟩ := hq4
      clear so0 so1 so2 so3 sp0 sp1 sp2 hz2 hz3 hf2' hf3' m0 m1 m2 m3 q0 q1 q2 q3 q4 q5 l0 l1 l2 l3 l4 l5 yr yp hs1 hs2 gs
      generalize (((s2.setCell ⟨w.heap.size + 2, 0, none⟩ (.bool bX)).setCell ⟨w.heap.size + 2, 1, none⟩ (.slice aX mX kX)).setCell ⟨w.heap.size + 2 + 1, 0, none⟩ (.bool br)).setCell ⟨w.heap.size + 2 + 1, 1, none⟩ (.slice ar9 mr9 kr9) = w5 at *
      obtain ⟨p0, p1⟩ := duo R5
      obtain ⟨p2, p3⟩ := duo R6
      go_wp2
      refine bodyPost_ret (v := .tuple #[.agg #[.bool bX, .slice aX mX kX], .agg #[.bool br, .slice ar9 mr9 kr9]]) (by simp [results, Tryz.results80, go_sem, p0, p1, p2, p3]) rfl ?_
      exact ⟨⟨_, _, _, _, _, _, _, _, rfl, HE.out.1, HE.out.2.1⟩, HE.out.2.2⟩

end Go.Proofs.YtppkhhbhnhijpaaGreatDoor

/- The document's Quo and Euclid. -/
namespace Go.Proofs.YtppkhhbhnhijpaaGreatDoor
open Go.RowKit
open Lm
attribute [local go_sem ↓] Go.wp_at_zero Go.wp_at_succ

/-- Towards 0, as the document reckons it. -/
def quq (y z : Int) : Int := if decide (y < 0) = decide (z < 0) then flq y z else ceq y z

/-- With a rest from 0 on. -/
def euq (y z : Int) : Int := if z < 0 then ceq y z else flq y z

end Go.Proofs.YtppkhhbhnhijpaaGreatDoor

/- The document's Near. -/
namespace Go.Proofs.YtppkhhbhnhijpaaGreatDoor
open Go.RowKit
open Lm
attribute [local go_sem ↓] Go.wp_at_zero Go.wp_at_succ

theorem Zn.inv9 {w : World} {b : Bool} {u : Value} {z : Int} (h : Zn w (.agg #[.bool b, u]) z) : b = decide (z < 0) ∧ Num w u z.natAbs := by
  obtain ⟨u', h1, h2⟩ := h
  simp only [Value.agg.injEq, Array.mk.injEq, List.cons.injEq, Value.bool.injEq, and_true] at h1
  obtain ⟨rfl, rfl⟩ := h1
  exact ⟨rfl, h2⟩

/-- Is the quotient downwards too small by more than a half? -/
def nearC (y z : Int) : Bool := decide (z.natAbs < (y - flq y z * z).natAbs * 2) || (decide ((y - flq y z * z).natAbs * 2 = z.natAbs) && decide ((flq y z).natAbs % 2 = 1))

/-- To the nearest, as the document reckons it. -/
def neq (y z : Int) : Int := if nearC y z then flq y z + 1 else flq y z

set_option maxRecDepth 20000 in
set_option maxHeartbeats 4000000 in
theorem rznear_any (v1 v2 : Value) (y z : Int) (w : World) (h1 : Zn w v1 y) (h2 : Zn w v2 z) (hz0 : z ≠ 0) (hf1 : blen y.natAbs ≤ 1125899906810000) (hf2 : blen z.natAbs ≤ 1125899906810000) :
    Calls Tryz.prog 81 #[v1, v2] w (ZnDone2 w (neq y z) (y - neq y z * z)) := by
  obtain ⟨b, a, n, k, rfl, hb, hn, hz⟩ := h1.parts
  obtain ⟨b2, a2, n2, k2, rfl, hb2, hn2, hz2⟩ := h2.parts
  obtain ⟨w0, hw0, hb0, c0, c1, c2, c3⟩ := enter4 w (.cells #[.bool b, .slice a n k] 43) (.cells #[.bool b2, .slice a2 n2 k2] 43) (.cells #[.bool false, .slice none 0 0] 43) (.cells #[.bool false, .slice none 0 0] 43)
  obtain ⟨d0, d1⟩ := duo c0
  obtain ⟨d2, d3⟩ := duo c1
  have HD := rzfloor_any _ _ y z w0 (h1.below hb0) (h2.below hb0) hz0 hf1 hf2
  have HB0 := hide hb0
  have HC0 := hide c0
  have HC1 := hide c1
  have HC2 := hide c2
  have HC3 := hide c3
  have HZ1 := hide (h1.below hb0)
  have HZ2 := hide (h2.below hb0)
  have hfq := flq_few y z
  have hdq := Nat.div_le_self y.natAbs z.natAbs
  have hbq := blen_next (x := y.natAbs) (q := (flq y z).natAbs) (k := 1) (by omega) (by omega)
  clear h1 h2 hn hn2 hb0 c0 c1 c2 c3 hb hb2 hz hz2
  have HQB : Hid (blen (neq y z).natAbs + blen z.natAbs ≤ 1125899906840000) := hide (by
    have h := quo_room (x := y.natAbs) (y := z.natAbs) (q := (neq y z).natAbs) (k := 2) (by omega) (by unfold neq; split <;> omega) (by omega) hf1 hf2
    omega)
  have hbr : blen (y - flq y z * z).natAbs + 1 ≤ 1125899906840000 := by
    have e1 : (y - flq y z * z).natAbs ≤ y.natAbs + (flq y z * z).natAbs := Int.natAbs_sub_le _ _
    have hqr := quo_room (x := y.natAbs) (y := z.natAbs) (q := (flq y z).natAbs) (k := 1) (by omega) (by omega) (by omega) hf1 hf2
    obtain ⟨N9, hN9⟩ : ∃ N9, N9 = 1125899906810000 + 5 := ⟨_, rfl⟩
    have e2 : blen (flq y z * z).natAbs ≤ N9 := by
      rw [Int.natAbs_mul]
      have := blen_mulW (flq y z).natAbs z.natAbs
      omega
    have e3 : blen (y.natAbs + (flq y z * z).natAbs) ≤ N9 + 1 := blen_plusW (by omega) e2
    have := blen_mono e1
    omega
  obtain ⟨nc, hnc⟩ : ∃ nc, nearC y z = nc := ⟨_, rfl⟩
  have hneq : neq y z = if nc then flq y z + 1 else flq y z := by unfold neq; rw [hnc]
  have HNEQ := hide hneq
  have HNC := hide hnc
  clear hneq hnc
  go_enter Tryz.func81, Tryz.ntmps81
  go_wp2_with fail
  refine HD.mono ?_
  rintro e t1 ⟨⟨bx, ax, mx, kx, br0, ar0, mr0, kr0, rfl, zq, zr⟩, g1⟩
  obtain ⟨u2, hu2, hbu2, hxu, hyu⟩ := enter2 t1 (.cells #[.bool bx, .slice ax mx kx] 43) (.cells #[.bool br0, .slice ar0 mr0 kr0] 43)
  have HG1 := hide g1
  have HU2 := hide hbu2
  have gu := bl_trans6 g1 hbu2
  have hbd : Below u2.heap.size u2 u2.drew := (Below.refl _ _).drew
  obtain ⟨x0, x1⟩ := duo (show u2.drew.heap[t1.heap.size + 1]? = some (.cells #[.bool br0, .slice ar0 mr0 kr0] 43) from hyu)
  obtain ⟨x2, x3⟩ := duo (block_upW (bl_trans6 gu hbd) HC1.out)
  have SH := rshl_any _ (y - flq y z * z).natAbs 1 u2.drew ((zr.below hbu2).inv9.2.below hbd) (by omega)
  have CM := hide (fun (W : World) (v : Value) (hg : Below u2.drew.heap.size u2.drew W) (hv : Num W v ((y - flq y z * z).natAbs * 2 ^ 1)) => rcmp_any v _ _ z.natAbs W hv ((((HZ2.out.below gu).inv9.2).below hbd).below hg))
  have HZQ := hide (zq.below hbu2)
  have HXU := hide hxu
  clear HD d0 d1 d2 d3 zq zr hbu2 hxu hyu g1
  go_wp2
  go_region_held3 (fun w' => w'.cell? ⟨t1.heap.size + 1, 0, none⟩ = some (.bool br0) ∧ w'.cell? ⟨t1.heap.size + 1, 1, none⟩ = some (.slice ar0 mr0 kr0) ∧ w'.cell? ⟨w.heap.size + 1, 0, none⟩ = some (.bool b2) ∧ w'.cell? ⟨w.heap.size + 1, 1, none⟩ = some (.slice a2 n2 k2)) (go_keep) (first
    | (go_at_call 77; refine SH.mono ?_; rintro e' s1 ⟨⟨vs, rfl, ns⟩, hs1⟩; have y0 := cell_up6 hs1 x0; have y1 := cell_up6 hs1 x1; have y2 := cell_up6 hs1 x2; have y3 := cell_up6 hs1 x3)
    | (go_at_call 97; refine (CM.out s1 _ hs1 ns).mono ?_; rintro e' s2 ⟨rfl, hsame⟩; have hs2 : Below s1.heap.size s1 s2 := hsame.below _; have q0 := cell_up6 hs2 y0; have q1 := cell_up6 hs2 y1; have q2 := cell_up6 hs2 y2; have q3 := cell_up6 hs2 y3))
  have gs := bl_trans6 (below_undrew6 hs1) hs2
  obtain ⟨t3, ht3⟩ : ∃ t3, s2 = t3 := ⟨_, rfl⟩
  rw [ht3] at gs ⊢
  have g3 := gs
  have HG3 := hide (bl_trans6 HU2.out g3)
  have HX3 := hide (block_upW g3 HXU.out)
  have HZ3 := hide (HZQ.out.below g3)
  obtain ⟨p0, p1⟩ := duo HX3.out
  have BT := rbit_any _ (flq y z).natAbs 0 t3 HZ3.out.inv9.2 (by omega)
  rw [Nat.pow_zero, Nat.div_one] at BT
  (try rw [Nat.pow_one])
  clear hs1 hs2 hsame q0 q1 q2 q3 y0 y1 y2 y3 x0 x1 x2 x3 SH CM ns gs ht3 hu2 gu hbd
  obtain ⟨cc, hcc⟩ : ∃ cc : Int, cmpN ((y - flq y z * z).natAbs * 2) z.natAbs = cc := ⟨_, rfl⟩
  rw [hcc]
  have HNC2 : Hid (nc = (decide (z.natAbs < (y - flq y z * z).natAbs * 2) || (decide ((y - flq y z * z).natAbs * 2 = z.natAbs) && decide ((flq y z).natAbs % 2 = 1)))) := hide (by rw [← HNC.out]; rfl)
  generalize (y - flq y z * z).natAbs * 2 = rr at *
  obtain ⟨bt, hbt, hbt2⟩ : ∃ bt : Nat, (flq y z).natAbs % 2 = bt ∧ bt < 2 := ⟨_, rfl, by omega⟩
  rw [hbt] at BT
  rw [hbt] at HNC2
  go_upto_region 3 with fail
  go_cut [32] from 21 to 33 (fun s wx => s = .bool nc ∧ wx = t3)
  case first =>
    by_cases hA : z.natAbs < rr
    · have hc1 : cc = 1 := by rw [← hcc]; unfold cmpN; rw [if_neg (by omega), if_pos hA]
      subst hc1
      have hn1 : nc = true := by rw [HNC2.out, decide_eq_true hA]; rfl
      clear hcc
      go_wp2_with fail
      go_meet
      exact ⟨by rw [hn1], rfl⟩
    · by_cases hB : rr = z.natAbs
      · have hc1 : cc = 0 := by rw [← hcc]; unfold cmpN; rw [if_neg (by omega), if_neg hA]
        subst hc1
        have hn1 : nc = decide (bt = 1) := by rw [HNC2.out, decide_eq_false hA, decide_eq_true hB]; rfl
        have hd : decide (bt = 1) = ((bt : Int) == 1) := by
          rcases (show bt = 0 ∨ bt = 1 by omega) with h | h <;> subst h <;> rfl
        have HN1 := hide (hn1.trans hd)
        clear hcc hn1 hd hbt hB hA
        go_wp2_with fail
        refine BT.mono ?_
        rintro e wn ⟨rfl, hw⟩; rw [hw]; clear hw wn
        go_wp2
        go_meet
        exact ⟨by rw [HN1.out], rfl⟩
      · have hc1 : cc = -1 := by rw [← hcc]; exact cmpN_lt (by omega)
        subst hc1
        have hn1 : nc = false := by rw [HNC2.out, decide_eq_false hA, decide_eq_false hB]; rfl
        clear hcc
        go_wp2_with fail
        go_meet
        exact ⟨by rw [hn1], rfl⟩
  case rest =>
    obtain ⟨rfl, rfl⟩ := hcut
    clear BT HNC2 HNC hcc hbt hbt2
    have HWS : Hid (wc = wc) := hide rfl
    cases nc
    · have hfq : neq y z = flq y z := by rw [HNEQ.out]; rfl
      have ZXF0 := HZ3.out
      rw [← hfq] at ZXF0
      have ZXF := ZXF0
      have BXF := HX3.out
      obtain ⟨bX, rfl⟩ : ∃ bX, bX = bx := ⟨_, rfl⟩
      obtain ⟨aX, rfl⟩ : ∃ aX, aX = ax := ⟨_, rfl⟩
      obtain ⟨mX, rfl⟩ : ∃ mX, mX = mx := ⟨_, rfl⟩
      obtain ⟨kX, rfl⟩ : ∃ kX, kX = kx := ⟨_, rfl⟩
      have gwc := bl_trans6 HG1.out HG3.out
      clear ZXF0 hfq p0 p1
      have hbd : Below wc.heap.size wc wc.drew := (Below.refl _ _).drew
      have gd := bl_trans6 gwc hbd
      obtain ⟨j0, j1⟩ := duo (block_upW gd HC0.out)
      obtain ⟨j2, j3⟩ := duo (block_upW gd HC1.out)
      have hxd := block_upW hbd BXF
      obtain ⟨j4, j5⟩ := duo hxd
      have ZX := hide (ZXF.below hbd)
      have HMU := rzmul_any _ _ (neq y z) z wc.drew ZX.out (HZ2.out.below gd) (by have := HQB.out; omega)
      have HSU := hide (fun (W : World) (v : Value) (hg : Below wc.drew.heap.size wc.drew W) (hv : Zn W v (neq y z * z)) => rzsub_any (.agg #[.bool b, .slice a n k]) v y (neq y z * z) W ((HZ1.out.below gd).below hg) hv (by omega) (by have h1 := HQB.out; rw [Int.natAbs_mul]; have h2 := blen_mulW (neq y z).natAbs z.natAbs; omega))
      have hr2 := block_upW gd HC2.out
      have hr3 := block_upW gd HC3.out
      have HR2 := hide hr2
      have HR3 := hide hr3
      have HGD := hide (bl_trans6 HB0.out gd)
      have hlx : w.heap.size + 3 < t1.heap.size := lt_of_block (block_upW HG1.out HC3.out)
      have so0 : ∀ (W : World) (k : Nat) (u : Value) (k' : Nat), (W.setCell ⟨w.heap.size + 2, k, none⟩ u).cell? ⟨w.heap.size, k', none⟩ = W.cell? ⟨w.heap.size, k', none⟩ := fun W k u k' => cell_otherW (by omega)
      have so1 : ∀ (W : World) (k : Nat) (u : Value) (k' : Nat), (W.setCell ⟨w.heap.size + 2, k, none⟩ u).cell? ⟨w.heap.size + 1, k', none⟩ = W.cell? ⟨w.heap.size + 1, k', none⟩ := fun W k u k' => cell_otherW (by omega)
      have so2 : ∀ (W : World) (k : Nat) (u : Value) (k' : Nat), (W.setCell ⟨w.heap.size + 2, k, none⟩ u).cell? ⟨t1.heap.size, k', none⟩ = W.cell? ⟨t1.heap.size, k', none⟩ := fun W k u k' => cell_otherW (by omega)
      have so3 : ∀ (W : World) (k : Nat) (u : Value) (k' : Nat), (W.setCell ⟨w.heap.size + 2, k, none⟩ u).cell? ⟨w.heap.size + 3, k', none⟩ = W.cell? ⟨w.heap.size + 3, k', none⟩ := fun W k u k' => cell_otherW (by omega)
      have sp0 : ∀ (W : World) (k : Nat) (u : Value) (k' : Nat), (W.setCell ⟨w.heap.size + 3, k, none⟩ u).cell? ⟨w.heap.size, k', none⟩ = W.cell? ⟨w.heap.size, k', none⟩ := fun W k u k' => cell_otherW (by omega)
      have sp1 : ∀ (W : World) (k : Nat) (u : Value) (k' : Nat), (W.setCell ⟨w.heap.size + 3, k, none⟩ u).cell? ⟨w.heap.size + 1, k', none⟩ = W.cell? ⟨w.heap.size + 1, k', none⟩ := fun W k u k' => cell_otherW (by omega)
      have sp2 : ∀ (W : World) (k : Nat) (u : Value) (k' : Nat), (W.setCell ⟨w.heap.size + 3, k, none⟩ u).cell? ⟨t1.heap.size, k', none⟩ = W.cell? ⟨t1.heap.size, k', none⟩ := fun W k u k' => cell_otherW (by omega)
      clear hr2 hr3 hxd
      go_wp2
      go_region_held3 (fun w' => w'.cell? ⟨w.heap.size, 0, none⟩ = some (.bool b) ∧ w'.cell? ⟨w.heap.size, 1, none⟩ = some (.slice a n k) ∧ w'.cell? ⟨w.heap.size + 1, 0, none⟩ = some (.bool b2) ∧ w'.cell? ⟨w.heap.size + 1, 1, none⟩ = some (.slice a2 n2 k2) ∧ w'.cell? ⟨t1.heap.size, 0, none⟩ = some (.bool bX) ∧ w'.cell? ⟨t1.heap.size, 1, none⟩ = some (.slice aX mX kX)) (go_keep) (first
        | (go_at_call 106; refine HMU.mono ?_; rintro e' s1 ⟨⟨bp, ap, mp, kp, rfl, yp⟩, hs1⟩; have l0 := cell_up6 hs1 j0; have l1 := cell_up6 hs1 j1; have l2 := cell_up6 hs1 j2; have l3 := cell_up6 hs1 j3; have l4 := cell_up6 hs1 j4; have l5 := cell_up6 hs1 j5)
        | (go_at_call 105; refine (HSU.out s1 _ hs1 yp).mono ?_; rintro e' s2 ⟨⟨br, ar9, mr9, kr9, rfl, yr⟩, hs2⟩; have q0 := cell_up6 hs2 l0; have q1 := cell_up6 hs2 l1; have q2 := cell_up6 hs2 l2; have q3 := cell_up6 hs2 l3; have q4 := cell_up6 hs2 l4; have q5 := cell_up6 hs2 l5; have hz2 := block_upW hs2 (block_upW hs1 HR2.out); have hz3 := block_upW hs2 (block_upW hs1 HR3.out); have hf2' := duof hz2; have hf3' := duof hz3; obtain ⟨m0, m1⟩ := duo hz2; obtain ⟨m2, m3⟩ := duo hz3))
      have gs := bl_trans6 hs1 hs2
      have hq4 := quadZ (g := w.heap.size + 2) (b1 := bX) (u1 := .slice aX mX kX) (b2 := br) (u2 := .slice ar9 mr9 kr9) hz2 hz3
      have HE := hide (And.intro (hq4.2.2 _ _ (ZX.out.below gs)) (And.intro (hq4.2.2 _ _ yr) (quad_below (bl_trans6 HGD.out gs) (g := w.heap.size + 2) (u0 := .bool bX) (u1 := .slice aX mX kX) (u2 := .bool br) (u3 := .slice ar9 mr9 kr9) (by omega))))
      obtain ⟨R5, R6, _⟩ := hq4
      clear so0 so1 so2 so3 sp0 sp1 sp2 hz2 hz3 hf2' hf3' m0 m1 m2 m3 q0 q1 q2 q3 q4 q5 l0 l1 l2 l3 l4 l5 yr yp hs1 hs2 gs
      generalize (((s2.setCell ⟨w.heap.size + 2, 0, none⟩ (.bool bX)).setCell ⟨w.heap.size + 2, 1, none⟩ (.slice aX mX kX)).setCell ⟨w.heap.size + 2 + 1, 0, none⟩ (.bool br)).setCell ⟨w.heap.size + 2 + 1, 1, none⟩ (.slice ar9 mr9 kr9) = w5 at *
      obtain ⟨p0, p1⟩ := duo R5
      obtain ⟨p2, p3⟩ := duo R6
      go_wp2
      refine bodyPost_ret (v := .tuple #[.agg #[.bool bX, .slice aX mX kX], .agg #[.bool br, .slice ar9 mr9 kr9]]) (by simp [results, Tryz.results81, go_sem, p0, p1, p2, p3]) rfl ?_
      exact ⟨⟨_, _, _, _, _, _, _, _, rfl, HE.out.1, HE.out.2.1⟩, HE.out.2.2⟩
    · have HFQ : Hid (neq y z = flq y z + 1) := hide (by rw [HNEQ.out]; rfl)
      have I1 := rzint_any 1 wc.drew (by omega) (by omega)
      have hb1 : blen (Int.natAbs 1) ≤ 64 := by decide
      have S1 := hide (fun (W : World) (v : Value) (hg : Below wc.drew.heap.size wc.drew W) (hv : Zn W v 1) => rzadd_any (.agg #[.bool bx, .slice ax mx kx]) v (flq y z) 1 W (HZ3.out.drew6.below hg) hv (by omega) (by omega))
      obtain ⟨x0, x1⟩ := duo (show wc.drew.heap[t1.heap.size]? = some (.cells #[.bool bx, .slice ax mx kx] 43) from HX3.out)
      clear p0 p1
      obtain ⟨t3, ht3⟩ : ∃ t3, wc = t3 := ⟨_, rfl⟩
      rw [ht3] at HG3 HX3 HZ3 I1 S1 x0 x1 ⊢
      clear ht3 HWS
      go_upto_region 4 with fail
      go_cut [33] from 33 to 36 (fun _ wx => ∃ (bX : Bool) (aX : Option Addr) (mX kX : Nat), wx.heap[t1.heap.size]? = some (.cells #[.bool bX, .slice aX mX kX] 43) ∧ Zn wx (.agg #[.bool bX, .slice aX mX kX]) (neq y z) ∧ Below t1.heap.size t1 wx)
      case first =>
        go_region_with (first
          | (go_at_call 93; refine I1.mono ?_; rintro e' s1 ⟨⟨bi, ai, mi, ki, rfl, yi⟩, hs1⟩; have y0 := cell_up6 hs1 x0; have y1 := cell_up6 hs1 x1)
          | (go_at_call 102; refine (S1.out s1 _ hs1 yi).mono ?_; rintro e' s2 ⟨⟨bs, as9, ms, ks, rfl, ys⟩, hs2⟩; have hzx := block_upW hs2 (block_upW hs1 (show t3.drew.heap[t1.heap.size]? = some (.cells #[.bool bx, .slice ax mx kx] 43) from HX3.out)); have hfx := duof hzx; obtain ⟨w0', w1'⟩ := duo hzx))
        all_goals (go_wp2_with fail; go_meet)
        all_goals (refine ⟨bs, as9, ms, ks, duo_all hzx, ?_, below_duo (bl_trans6 (bl_trans6 HG3.out (Below.refl _ _).drew) (bl_trans6 hs1 hs2)) (Nat.le_refl _)⟩; rw [HFQ.out]; exact ys.duo hzx)
      case rest =>
        obtain ⟨bX, aX, mX, kX, BXF, ZXF, gx⟩ := hcut
        have gwc := bl_trans6 HG1.out gx
        have hbd : Below wc.heap.size wc wc.drew := (Below.refl _ _).drew
        have gd := bl_trans6 gwc hbd
        obtain ⟨j0, j1⟩ := duo (block_upW gd HC0.out)
        obtain ⟨j2, j3⟩ := duo (block_upW gd HC1.out)
        have hxd := block_upW hbd BXF
        obtain ⟨j4, j5⟩ := duo hxd
        have ZX := hide (ZXF.below hbd)
        have HMU := rzmul_any _ _ (neq y z) z wc.drew ZX.out (HZ2.out.below gd) (by have := HQB.out; omega)
        have HSU := hide (fun (W : World) (v : Value) (hg : Below wc.drew.heap.size wc.drew W) (hv : Zn W v (neq y z * z)) => rzsub_any (.agg #[.bool b, .slice a n k]) v y (neq y z * z) W ((HZ1.out.below gd).below hg) hv (by omega) (by have h1 := HQB.out; rw [Int.natAbs_mul]; have h2 := blen_mulW (neq y z).natAbs z.natAbs; omega))
        have hr2 := block_upW gd HC2.out
        have hr3 := block_upW gd HC3.out
        have HR2 := hide hr2
        have HR3 := hide hr3
        have HGD := hide (bl_trans6 HB0.out gd)
        have hlx : w.heap.size + 3 < t1.heap.size := lt_of_block (block_upW HG1.out HC3.out)
        have so0 : ∀ (W : World) (k : Nat) (u : Value) (k' : Nat), (W.setCell ⟨w.heap.size + 2, k, none⟩ u).cell? ⟨w.heap.size, k', none⟩ = W.cell? ⟨w.heap.size, k', none⟩ := fun W k u k' => cell_otherW (by omega)
        have so1 : ∀ (W : World) (k : Nat) (u : Value) (k' : Nat), (W.setCell ⟨w.heap.size + 2, k, none⟩ u).cell? ⟨w.heap.size + 1, k', none⟩ = W.cell? ⟨w.heap.size + 1, k', none⟩ := fun W k u k' => cell_otherW (by omega)
        have so2 : ∀ (W : World) (k : Nat) (u : Value) (k' : Nat), (W.setCell ⟨w.heap.size + 2, k, none⟩ u).cell? ⟨t1.heap.size, k', none⟩ = W.cell? ⟨t1.heap.size, k', none⟩ := fun W k u k' => cell_otherW (by omega)
        have so3 : ∀ (W : World) (k : Nat) (u : Value) (k' : Nat), (W.setCell ⟨w.heap.size + 2, k, none⟩ u).cell? ⟨w.heap.size + 3, k', none⟩ = W.cell? ⟨w.heap.size + 3, k', none⟩ := fun W k u k' => cell_otherW (by omega)
        have sp0 : ∀ (W : World) (k : Nat) (u : Value) (k' : Nat), (W.setCell ⟨w.heap.size + 3, k, none⟩ u).cell? ⟨w.heap.size, k', none⟩ = W.cell? ⟨w.heap.size, k', none⟩ := fun W k u k' => cell_otherW (by omega)
        have sp1 : ∀ (W : World) (k : Nat) (u : Value) (k' : Nat), (W.setCell ⟨w.heap.size + 3, k, none⟩ u).cell? ⟨w.heap.size + 1, k', none⟩ = W.cell? ⟨w.heap.size + 1, k', none⟩ := fun W k u k' => cell_otherW (by omega)
        have sp2 : ∀ (W : World) (k : Nat) (u : Value) (k' : Nat), (W.setCell ⟨w.heap.size + 3, k, none⟩ u).cell? ⟨t1.heap.size, k', none⟩ = W.cell? ⟨t1.heap.size, k', none⟩ := fun W k u k' => cell_otherW (by omega)
        clear hr2 hr3 hxd
        go_wp2
        go_region_held3 (fun w' => w'.cell? ⟨w.heap.size, 0, none⟩ = some (.bool b) ∧ w'.cell? ⟨w.heap.size, 1, none⟩ = some (.slice a n k) ∧ w'.cell? ⟨w.heap.size + 1, 0, none⟩ = some (.bool b2) ∧ w'.cell? ⟨w.heap.size + 1, 1, none⟩ = some (.slice a2 n2 k2) ∧ w'.cell? ⟨t1.heap.size, 0, none⟩ = some (.bool bX) ∧ w'.cell? ⟨t1.heap.size, 1, none⟩ = some (.slice aX mX kX)) (go_keep) (first
          | (go_at_call 106; refine HMU.mono ?_; rintro e' s1 ⟨⟨bp, ap, mp, kp, rfl, yp⟩, hs1⟩; have l0 := cell_up6 hs1 j0; have l1 := cell_up6 hs1 j1; have l2 := cell_up6 hs1 j2; have l3 := cell_up6 hs1 j3; have l4 := cell_up6 hs1 j4; have l5 := cell_up6 hs1 j5)
          | (go_at_call 105; refine (HSU.out s1 _ hs1 yp).mono ?_; rintro e' s2 ⟨⟨br, ar9, mr9, kr9, rfl, yr⟩, hs2⟩; have q0 := cell_up6 hs2 l0; have q1 := cell_up6 hs2 l1; have q2 := cell_up6 hs2 l2; have q3 := cell_up6 hs2 l3; have q4 := cell_up6 hs2 l4; have q5 := cell_up6 hs2 l5; have hz2 := block_upW hs2 (block_upW hs1 HR2.out); have hz3 := block_upW hs2 (block_upW hs1 HR3.out); have hf2' := duof hz2; have hf3' := duof hz3; obtain ⟨m0, m1⟩ := duo hz2; obtain ⟨m2, m3⟩ := duo hz3))
        have gs := bl_trans6 hs1 hs2
        have hq4 := quadZ (g := w.heap.size + 2) (b1 := bX) (u1 := .slice aX mX kX) (b2 := br) (u2 := .slice ar9 mr9 kr9) hz2 hz3
        have HE := hide (And.intro (hq4.2.2 _ _ (ZX.out.below gs)) (And.intro (hq4.2.2 _ _ yr) (quad_below (bl_trans6 HGD.out gs) (g := w.heap.size + 2) (u0 := .bool bX) (u1 := .slice aX mX kX) (u2 := .bool br) (u3 := .slice ar9 mr9 kr9) (by omega))))
        obtain ⟨R5, R6, _⟩ := hq4
        clear so0 so1 so2 so3 sp0 sp1 sp2 hz2 hz3 hf2' hf3' m0 m1 m2 m3 q0 q1 q2 q3 q4 q5 l0 l1 l2 l3 l4 l5 yr yp hs1 hs2 gs
        generalize (((s2.setCell ⟨w.heap.size + 2, 0, none⟩ (.bool bX)).setCell ⟨w.heap.size + 2, 1, none⟩ (.slice aX mX kX)).setCell ⟨w.heap.size + 2 + 1, 0, none⟩ (.bool br)).setCell ⟨w.heap.size + 2 + 1, 1, none⟩ (.slice ar9 mr9 kr9) = w5 at *
        obtain ⟨p0, p1⟩ := duo R5
        obtain ⟨p2, p3⟩ := duo R6
        go_wp2
        refine bodyPost_ret (v := .tuple #[.agg #[.bool bX, .slice aX mX kX], .agg #[.bool br, .slice ar9 mr9 kr9]]) (by simp [results, Tryz.results81, go_sem, p0, p1, p2, p3]) rfl ?_
        exact ⟨⟨_, _, _, _, _, _, _, _, rfl, HE.out.1, HE.out.2.1⟩, HE.out.2.2⟩

end Go.Proofs.YtppkhhbhnhijpaaGreatDoor
