/- The laws' alike where a call refuses; pair. -/
import Derived.Test.YtfgcngndiblpmaaGreatDoorQ3
import Derived.Test.YtfgcngndiblpmaaGreatDoorQ2
import Derived.Test.YtfgcngndiblpmaaGreatDoorQ4
import Derived.Test.YtfgcngndiblpmaaGreatDoorQJ
import Derived.Test.YtfgcngndiblpmaaGreatDoorQB
namespace Go.Proofs.YtfgcngndiblpmaaGreatDoor
open Go.RowKit
open Lm
attribute [local go_sem ↓] Go.wp_at_zero Go.wp_at_succ

set_option maxHeartbeats 1000000 in
theorem walike_no (c : Int) (v : Value) (z : Int) (w : World) (hz : Zn w v z) (hc0 : c ≠ 0) :
    Calls Tryz.prog 57 #[.agg #[.bool false, .slice none 0 0], .int .i64 c, v, .int .i64 c] w fun e w' => e = .returned (.bool true) ∧ Below w.heap.size w w' := by
  obtain ⟨b9, a9, n9, k9, rfl, hb9, hn9, hz9⟩ := hz.parts
  obtain ⟨w0, hw0, hb0, h0, h1⟩ := enter2 w (.cells #[.bool false, .slice none 0 0] 27) (.cells #[.bool b9, .slice a9 n9 k9] 32)
  obtain ⟨k0, k1⟩ := duo h0
  obtain ⟨k2, k3⟩ := duo h1
  have HN := num6_any c w0
  have HB0 := hide hb0
  have hne : (c == 0) = false := by simpa using hc0
  have hne2 : (c != 0) = true := by simpa using hc0
  have hcc : (c == c) = true := by simp
  clear hz hn9 hz9 hb0 h0 h1 hb9
  go_enter Tryz.func57, Tryz.ntmps57
  go_wp2_with fail
  refine HN.mono ?_
  rintro e wn ⟨rfl, hw⟩; rw [hw]; clear hw wn HN
  go_wp2
  go_ret
  exact ⟨rfl, HB0.out⟩

set_option maxHeartbeats 2000000 in
theorem wpair_ok (b1 : Bool) (a1 : Option Addr) (m1 n1 : Nat) (b2 : Bool) (a2 : Option Addr) (m2 n2 : Nat) (c : Int) (vx vy : Value) (qz rz : Int) (base : Nat) (w : World) (h : DivR w base b1 (.slice a1 m1 n1) b2 (.slice a2 m2 n2) c qz rz) (hX : Zn w vx qz) (hY : Zn w vy rz) :
    Calls Tryz.prog 21 #[.agg #[.bool b1, .slice a1 m1 n1], .agg #[.bool b2, .slice a2 m2 n2], .int .i64 c, vx, vy, .int .i64 0] w fun e w' => e = .returned (.bool true) ∧ Below w.heap.size w w' := by
  obtain ⟨bx, ax, nx, kx, rfl, hbx, hnx, hzx⟩ := hX.parts
  obtain ⟨by_, ay, ny, ky, rfl, hby, hny, hzy⟩ := hY.parts
  obtain ⟨w0, hw0, hb0, h0, h1, h2, h3⟩ := enter4 w (.cells #[.bool b1, .slice a1 m1 n1] 27) (.cells #[.bool b2, .slice a2 m2 n2] 27) (.cells #[.bool bx, .slice ax nx kx] 32) (.cells #[.bool by_, .slice ay ny ky] 32)
  obtain ⟨k0, k1⟩ := duo h0
  obtain ⟨k2, k3⟩ := duo h1
  obtain ⟨k4, k5⟩ := duo h2
  obtain ⟨k6, k7⟩ := duo h3
  have L1 := len_any _ qz.natAbs w0 (hnx.below hb0)
  have L2 := len_any _ rz.natAbs w0 (hny.below hb0)
  have HB0 := hide hb0
  have H1 := hide h1
  have H3 := hide h3
  have HX := hide (hX.below hb0)
  have HY := hide (hY.below hb0)
  obtain ⟨rs1, rs2, A1, A2, _, hcase⟩ := h
  rcases hcase with ⟨rfl, e1, e2, e3, f1, f2, f3, l1, l2⟩ | ⟨rfl, rfl, ev1, rfl, ev2, _, _, hbig⟩
  · have Z1 := hide (show ZR w0 base b1 (.slice a1 m1 n1) 0 qz from ⟨rs1, A1.below hb0, .inl ⟨rfl, e1, e2, e3, l1⟩⟩)
    have Z2 := hide (show ZR w0 base b2 (.slice a2 m2 n2) 0 rz from ⟨rs2, A2.below hb0, .inl ⟨rfl, f1, f2, f3, l2⟩⟩)
    have i1 : ¬ (67108864 : Int) < ((blen qz.natAbs : Nat) : Int) := by omega
    have i2 : ¬ (67108864 : Int) < ((blen rz.natAbs : Nat) : Int) := by omega
    have j1 : decide ((67108864 : Int) < ((blen qz.natAbs : Nat) : Int)) = false := decide_eq_false i1
    have j2' : decide ((67108864 : Int) < ((blen rz.natAbs : Nat) : Int)) = false := decide_eq_false i2
    clear hX hY hnx hny hzx hzy hb0 h0 h1 h2 h3 hbx hby A1 A2 e1 e2 e3 f1 f2 f3
    generalize blen qz.natAbs = lq at *
    generalize blen rz.natAbs = lr at *
    go_enter Tryz.func21, Tryz.ntmps21
    go_wp2_with fail
    refine L1.mono ?_
    rintro e wn ⟨rfl, hw⟩; rw [hw]; clear hw wn L1
    go_wp2_with fail
    refine L2.mono ?_
    rintro e wn ⟨rfl, hw⟩; rw [hw]; clear hw wn L2
    have K1 := walike_ok b1 a1 m1 n1 0 _ qz base w0 Z1.out HX.out
    go_wp2_with fail
    refine K1.mono ?_
    rintro e t1 ⟨rfl, g1⟩
    obtain ⟨j2, j3⟩ := duo (block_upW g1 H1.out)
    obtain ⟨j6, j7⟩ := duo (block_upW g1 H3.out)
    have K2 := walike_ok b2 a2 m2 n2 0 _ rz base t1 (Z2.out.below g1) (HY.out.below g1)
    have HG1 := hide (HB0.out.trans (g1.mono HB0.out.size))
    clear g1 K1 k0 k1 k2 k3 k4 k5 k6 k7
    go_wp2_with fail
    refine K2.mono ?_
    rintro e t2 ⟨rfl, g2⟩
    have HG2 := hide (HG1.out.trans (g2.mono HG1.out.size))
    clear g2 K2
    go_wp2
    go_ret
    exact ⟨rfl, HG2.out⟩
  · simp only [Value.slice.injEq] at ev1 ev2
    obtain ⟨rfl, rfl, rfl⟩ := ev1
    obtain ⟨rfl, rfl, rfl⟩ := ev2
    clear hX hY hnx hny hzx hzy hb0 h0 h1 h2 h3 hbx hby A1 A2
    by_cases hq : 67108864 < blen qz.natAbs
    · have i1 : (67108864 : Int) < ((blen qz.natAbs : Nat) : Int) := by omega
      generalize blen qz.natAbs = lq at *
      generalize blen rz.natAbs = lr at *
      go_enter Tryz.func21, Tryz.ntmps21
      go_wp2_with fail
      refine L1.mono ?_
      rintro e wn ⟨rfl, hw⟩; rw [hw]; clear hw wn L1 L2 hbig
      have K1 := walike_no 3 _ qz w0 HX.out (by omega)
      go_wp2_with fail
      refine K1.mono ?_
      rintro e t1 ⟨rfl, g1⟩
      obtain ⟨j2, j3⟩ := duo (block_upW g1 H1.out)
      obtain ⟨j6, j7⟩ := duo (block_upW g1 H3.out)
      have K2 := walike_no 3 _ rz t1 (HY.out.below g1) (by omega)
      have HG1 := hide (HB0.out.trans (g1.mono HB0.out.size))
      clear g1 K1 k0 k1 k2 k3 k4 k5 k6 k7
      go_wp2_with fail
      refine K2.mono ?_
      rintro e t2 ⟨rfl, g2⟩
      have HG2 := hide (HG1.out.trans (g2.mono HG1.out.size))
      clear g2 K2
      go_wp2
      go_ret
      exact ⟨rfl, HG2.out⟩
    · have i1 : ¬ (67108864 : Int) < ((blen qz.natAbs : Nat) : Int) := by omega
      have j1 : decide ((67108864 : Int) < ((blen qz.natAbs : Nat) : Int)) = false := decide_eq_false i1
      have i2 : (67108864 : Int) < ((blen rz.natAbs : Nat) : Int) := by omega
      clear hbig hq
      generalize blen qz.natAbs = lq at *
      generalize blen rz.natAbs = lr at *
      go_enter Tryz.func21, Tryz.ntmps21
      go_wp2_with fail
      refine L1.mono ?_
      rintro e wn ⟨rfl, hw⟩; rw [hw]; clear hw wn L1
      go_wp2_with fail
      refine L2.mono ?_
      rintro e wn ⟨rfl, hw⟩; rw [hw]; clear hw wn L2
      have K1 := walike_no 3 _ qz w0 HX.out (by omega)
      go_wp2_with fail
      refine K1.mono ?_
      rintro e t1 ⟨rfl, g1⟩
      obtain ⟨j2, j3⟩ := duo (block_upW g1 H1.out)
      obtain ⟨j6, j7⟩ := duo (block_upW g1 H3.out)
      have K2 := walike_no 3 _ rz t1 (HY.out.below g1) (by omega)
      have HG1 := hide (HB0.out.trans (g1.mono HB0.out.size))
      clear g1 K1 k0 k1 k2 k3 k4 k5 k6 k7
      go_wp2_with fail
      refine K2.mono ?_
      rintro e t2 ⟨rfl, g2⟩
      have HG2 := hide (HG1.out.trans (g2.mono HG1.out.size))
      clear g2 K2
      go_wp2
      go_ret
      exact ⟨rfl, HG2.out⟩

set_option maxHeartbeats 2000000 in
theorem wpair_zero (vx vy : Value) (qz rz : Int) (w : World) (hX : Zn w vx qz) (hY : Zn w vy rz) :
    Calls Tryz.prog 21 #[.agg #[.bool false, .slice none 0 0], .agg #[.bool false, .slice none 0 0], .int .i64 30, vx, vy, .int .i64 30] w fun e w' => e = .returned (.bool true) ∧ Below w.heap.size w w' := by
  obtain ⟨bx, ax, nx, kx, rfl, hbx, hnx, hzx⟩ := hX.parts
  obtain ⟨by_, ay, ny, ky, rfl, hby, hny, hzy⟩ := hY.parts
  obtain ⟨w0, hw0, hb0, h0, h1, h2, h3⟩ := enter4 w (.cells #[.bool false, .slice none 0 0] 27) (.cells #[.bool false, .slice none 0 0] 27) (.cells #[.bool bx, .slice ax nx kx] 32) (.cells #[.bool by_, .slice ay ny ky] 32)
  obtain ⟨k0, k1⟩ := duo h0
  obtain ⟨k2, k3⟩ := duo h1
  obtain ⟨k4, k5⟩ := duo h2
  obtain ⟨k6, k7⟩ := duo h3
  have L1 := len_any _ qz.natAbs w0 (hnx.below hb0)
  have L2 := len_any _ rz.natAbs w0 (hny.below hb0)
  have HB0 := hide hb0
  have H1 := hide h1
  have H3 := hide h3
  have HX := hide (hX.below hb0)
  have HY := hide (hY.below hb0)
  clear hX hY hnx hny hzx hzy hb0 h0 h1 h2 h3 hbx hby L1 L2
  go_enter Tryz.func21, Tryz.ntmps21
  have K1 := walike_no 30 _ qz w0 HX.out (by omega)
  go_wp2_with fail
  refine K1.mono ?_
  rintro e t1 ⟨rfl, g1⟩
  obtain ⟨j2, j3⟩ := duo (block_upW g1 H1.out)
  obtain ⟨j6, j7⟩ := duo (block_upW g1 H3.out)
  have K2 := walike_no 30 _ rz t1 (HY.out.below g1) (by omega)
  have HG1 := hide (HB0.out.trans (g1.mono HB0.out.size))
  clear g1 K1 k0 k1 k2 k3 k4 k5 k6 k7
  go_wp2_with fail
  refine K2.mono ?_
  rintro e t2 ⟨rfl, g2⟩
  have HG2 := hide (HG1.out.trans (g2.mono HG1.out.size))
  clear g2 K2
  go_wp2
  go_ret
  exact ⟨rfl, HG2.out⟩

end Go.Proofs.YtfgcngndiblpmaaGreatDoor

/- Package whole: divide, towards 0. -/
namespace Go.Proofs.YtfgcngndiblpmaaGreatDoor
open Go.RowKit
open Lm
attribute [local go_sem ↓] Go.wp_at_zero Go.wp_at_succ

set_option maxRecDepth 20000 in
set_option maxHeartbeats 4000000 in
attribute [local go_sem] pick1 fld1 in
theorem wdivide_1 (b1 : Bool) (v : Value) (X : List Nat) (b2 : Bool) (u : Value) (Y : List Nat) (ap fu : Bool) (qz rz : Int) (w : World) (hA : Arg w v X) (hB : Arg w u Y) (hT : Tab w) (hx : X.length ≤ 17592186043904) (hy : Y.length ≤ 17592186043904) (hy0 : 0 < val Y)
    (hap : (b1 != b2) = ap) (hfu : false = fu)
    (hqz : qz = zz ap (val X / val Y + if fu && decide (0 < val X % val Y) then 1 else 0)) (hrz : rz = zz (if fu && decide (0 < val X % val Y) then !b1 else b1) (if fu && decide (0 < val X % val Y) then val Y - val X % val Y else val X % val Y)) :
    Calls Tryz.prog 66 #[.int .i64 0, .agg #[.bool b1, v], .agg #[.bool b2, u]] w (WDivDone w qz rz) := by
  have hap2 : (!(b1 == b2)) = ap := hap
  have HFU := hide hfu
  clear hfu
  obtain ⟨a, n, rfl, hn1, hn2, _⟩ := hA.form
  obtain ⟨a9, n9, rfl, hn3, hn4, _⟩ := hB.form
  obtain ⟨w0, hw0, hb0, h0, h1, h2, h3⟩ := enter4 w (.cells #[.bool b1, .slice a X.length n] 27) (.cells #[.bool b2, .slice a9 Y.length n9] 27) (.cells #[.bool false, .slice none 0 0] 27) (.cells #[.bool false, .slice none 0 0] 27)
  obtain ⟨k0, k1⟩ := duo h0
  obtain ⟨k2, k3⟩ := duo h1
  have hbx : blen (val X) ≤ 64 * X.length := blen_val_le X hA.limbs
  have hby : blen (val Y) ≤ 64 * Y.length := blen_val_le Y hB.limbs
  have HZ := wisZero_any _ Y w0 (hB.below hb0)
  rw [decide_eq_false (by omega)] at HZ
  obtain ⟨wd, hwd⟩ : ∃ wd, w0.drew = wd := ⟨_, rfl⟩
  have hbd : Below w0.heap.size w0 wd := by rw [← hwd]; exact (Below.refl _ _).drew
  have hbwd := hb0.trans (hbd.mono hb0.size)
  have L1 := length_val _ X wd (hA.below hbwd)
  have L2 := length_val _ Y wd (hB.below hbwd)
  have g0 := block_upW hbd h0
  have g1 := block_upW hbd h1
  obtain ⟨d0, d1⟩ := duo g0
  obtain ⟨d2, d3⟩ := duo g1
  have HG0 := hide g0
  have HG1 := hide g1
  have HG2 := hide (block_upW hbd h2)
  have HG3 := hide (block_upW hbd h3)
  have HWD := hide hbwd
  obtain ⟨dd, hdd⟩ : ∃ dd : Int, ((blen (val X) : Nat) : Int) - ((blen (val Y) : Nat) : Int) = dd := ⟨_, rfl⟩
  have wdd : IntKind.i64.wrap dd = dd := by rw [IntKind.wrap_i64]; omega
  have wdd2 : IntKind.i64.wrap (((blen (val X) : Nat) : Int) - ((blen (val Y) : Nat) : Int)) = dd := by rw [IntKind.wrap_i64]; omega
  have HQZ := hide hqz
  have HRZ := hide hrz
  have HA := hide (hA.below hbwd)
  have HB := hide (hB.below hbwd)
  have HT := hide (hT.below hbwd)
  by_cases hbig : 67108864 + blen (val Y) < blen (val X)
  · have i1 : (67108864 : Int) < dd := by omega
    have HBQ : Hid (67108864 < blen qz.natAbs) := by
      refine hide ?_
      rw [hqz, zz_abs]
      refine Nat.lt_of_lt_of_le ?_ (blen_mono (Nat.le_add_right _ _))
      exact blen_quo_ge (by omega) hbig
    generalize blen (val X) = lx at *
    generalize blen (val Y) = ly at *
    clear hA hB hT hb0 h0 h1 h2 h3 hbd hbwd g0 g1 HQZ HRZ hqz hrz hbig
    go_enter Tryz.func66, Tryz.ntmps66
    go_wp2_with fail
    refine HZ.mono ?_
    rintro e wn ⟨rfl, hw⟩; rw [hw]; clear hw wn HZ
    go_wp2
    go_region_held3 (fun w' => w'.cell? ⟨w.heap.size, 1, none⟩ = some (.slice a X.length n) ∧ w'.cell? ⟨w.heap.size + 1, 1, none⟩ = some (.slice a9 Y.length n9)) (go_keep) (first
      | (go_at_call_of 93 a; (try rw [hwd]); refine L1.mono ?_; rintro e' wn ⟨rfl, hw⟩; rw [hw]; clear hw wn)
      | (go_at_call_of 93 a9; (try rw [hwd]); refine L2.mono ?_; rintro e' wn ⟨rfl, hw⟩; rw [hw]; clear hw wn))

    have HR2 := HG2
    have HR3 := HG3
    have HBE := HWD
    have hf2 := duof HR2.out
    have hf3 := duof HR3.out
    obtain ⟨m0, m1⟩ := duo HR2.out
    obtain ⟨m2, m3⟩ := duo HR3.out
    go_wp2
    have hq4 := quad (base := w.heap.size) (u0 := .bool false) (u1 := (.slice none 0 0)) (u2 := .bool false) (u3 := (.slice none 0 0)) HR2.out HR3.out
    have HD := hide (And.intro hq4.2.2 (quad_below HBE.out (g := w.heap.size + 2) (u0 := .bool false) (u1 := (.slice none 0 0)) (u2 := .bool false) (u3 := (.slice none 0 0)) (by omega)))
    obtain ⟨R5, R6, _⟩ := hq4
    generalize (((wd.setCell ⟨w.heap.size + 2, 0, none⟩ (.bool false)).setCell ⟨w.heap.size + 2, 1, none⟩ ((.slice none 0 0))).setCell ⟨w.heap.size + 2 + 1, 0, none⟩ (.bool false)).setCell ⟨w.heap.size + 2 + 1, 1, none⟩ ((.slice none 0 0)) = w5 at *
    obtain ⟨q0, q1⟩ := duo R5
    obtain ⟨q2, q3⟩ := duo R6
    refine bodyPost_ret (v := .tuple #[.agg #[.bool false, (.slice none 0 0)], .agg #[.bool false, (.slice none 0 0)], .int .i64 3]) (by simp [results, Tryz.results66, go_sem, q0, q1, q2, q3]) rfl ?_
    exact ⟨⟨_, _, _, _, _, _, _, _, 3, rfl, [], [], Ans.nil _ _, Ans.nil _ _, .inl rfl, .inr ⟨rfl, rfl, rfl, rfl, rfl, rfl, rfl, .inl HBQ.out⟩⟩, HD.out.2⟩
  · have i1 : ¬ (67108864 : Int) < dd := by omega
    have HBO := wboth_any (blen (val X)) X Y _ _ wd (by omega) HA.out HB.out HT.out (by omega) (by omega) hy0
    generalize blen (val X) = lx at *
    generalize blen (val Y) = ly at *
    clear hA hB hT hb0 h0 h1 h2 h3 hbd hbwd g0 g1 hqz hrz hbig
    go_enter Tryz.func66, Tryz.ntmps66
    go_wp2_with fail
    refine HZ.mono ?_
    rintro e wn ⟨rfl, hw⟩; rw [hw]; clear hw wn HZ
    go_wp2
    go_region_held3 (fun w' => w'.cell? ⟨w.heap.size, 1, none⟩ = some (.slice a X.length n) ∧ w'.cell? ⟨w.heap.size + 1, 1, none⟩ = some (.slice a9 Y.length n9)) (go_keep) (first
      | (go_at_call_of 93 a; (try rw [hwd]); refine L1.mono ?_; rintro e' wn ⟨rfl, hw⟩; rw [hw]; clear hw wn)
      | (go_at_call_of 93 a9; (try rw [hwd]); refine L2.mono ?_; rintro e' wn ⟨rfl, hw⟩; rw [hw]; clear hw wn))

    go_wp2_with fail
    refine HBO.mono ?_
    rintro e w1 ⟨⟨v1, v2, rq, rr, rfl, A1, A2, e1, t1, e2, t2, hapt⟩, hb1⟩
    obtain ⟨aq, kq, rfl⟩ := A1.shape
    obtain ⟨ar, kr, rfl⟩ := A2.shape
    have hlq : rq.length ≤ X.length := by
      rw [← t1]; refine tr_len_lt rq _ ?_
      rw [e1]; exact Nat.lt_of_le_of_lt (Nat.div_le_self _ _) (val_lt HA.out.limbs)
    have hlr : rr.length ≤ Y.length := by
      rw [← t2]; refine tr_len_lt rr _ ?_
      rw [e2]; exact Nat.lt_trans (Nat.mod_lt _ hy0) (val_lt HB.out.limbs)
    have hnz := norm_zero t2
    rw [e2] at hnz
    have HWB := hide (HWD.out.trans (hb1.mono HWD.out.size))
    have HK0 := hide (block_upW hb1 HG0.out)
    have HK1 := hide (block_upW hb1 HG1.out)
    have HR2 := hide (block_upW hb1 HG2.out)
    have HR3 := hide (block_upW hb1 HG3.out)
    have HB1 := hide (HB.out.below hb1)
    have HT1 := hide (HT.out.below hb1)
    have HQA := hide (And.intro (A1.base HWD.out.size) (And.intro e1 t1))
    have HRA := hide (And.intro (A2.base HWD.out.size) (And.intro e2 t2))
    have HAP := hide hapt
    have HLQ := hide (And.intro (show rq.length ≤ 1125899906842624 by omega) (show rr.length ≤ 1125899906842624 by omega))
    obtain ⟨f0, f1⟩ := duo HK0.out
    obtain ⟨f2, f3⟩ := duo HK1.out
    obtain ⟨lq, hnq⟩ : ∃ lq, rq.length = lq := ⟨_, rfl⟩
    obtain ⟨lr, hnr⟩ : ∃ lr, rr.length = lr := ⟨_, rfl⟩
    rw [hnq] at HQA HAP ⊢
    rw [hnr] at HRA HAP ⊢
    have HLN := hide (And.intro hlq (And.intro hlr (And.intro hnq hnr)))
    rw [hnr] at hnz
    clear A1 A2 e1 e2 t1 t2 hapt hb1 HBO k0 k1 k2 k3 d0 d1 d2 d3 hlq hlr hnq hnr HG0 HG1 HG2 HG3 HA HB HT L1 L2
    go_wp2
    go_quiet (fail)
    obtain ⟨wq, hwq⟩ : ∃ wq, wq = w1.drewN nq := ⟨_, rfl⟩
    have hbq : Below w1.heap.size w1 wq := by rw [hwq]; exact ((Same.refl w1).drewN nq).below _
    rw [← hwq]
    have HWB2 := hide (HWB.out.trans (hbq.mono HWB.out.size))
    have HK12 := hide (block_upW hbq HK1.out)
    have HR22 := hide (block_upW hbq HR2.out)
    have HR32 := hide (block_upW hbq HR3.out)
    have HB12 := hide (HB1.out.below hbq)
    have HQA2 := hide (And.intro (HQA.out.1.below hbq) HQA.out.2)
    have HRA2 := hide (And.intro (HRA.out.1.below hbq) HRA.out.2)
    clear HWB HK0 HK1 HR2 HR3 HB1 HQA HRA f0 f1 f2 f3 hwq hbq HT1
    have HWB := HWB2
    have HR2 := HR22
    have HR3 := HR32
    obtain ⟨f2, f3⟩ := duo HK12.out
    clear HWB2 HR22 HR32
    by_cases hr : 0 < lr
    · have i3 : (0 : Int) < (lr : Int) := by omega
      have hr0 : 0 < val X % val Y := by omega
      have hml := Nat.mod_lt (val X) hy0
      clear hnz
      have HLS := wless_any _ (.slice ar lr kr) Y rr wq HB12.out (HRA2.out.1.arg HLQ.out.2) (by omega) (by rw [HRA2.out.2.1]; omega)
      rw [HRA2.out.2.1] at HLS
      go_wp2_with fail
      refine HLS.mono ?_
      rintro e w3 ⟨⟨v3, r3, rfl, A3, e3, t3⟩, hb3⟩
      obtain ⟨a3, k3, rfl⟩ := A3.shape
      have hl3 : r3.length ≤ Y.length := by
        rw [← t3]; refine tr_len_lt r3 _ ?_
        rw [e3]; exact Nat.lt_of_le_of_lt (Nat.sub_le _ _) (val_lt HB12.out.limbs)
      obtain ⟨l3, hl3e⟩ : ∃ l3, r3.length = l3 := ⟨_, rfl⟩
      rw [hl3e] at A3 ⊢
      have hDV := wdivs_any w3
      have HB3 := hide hb3
      have HA3 := hide (And.intro A3 (And.intro e3 (And.intro t3 (show r3.length ≤ 1125899906842624 by omega))))
      clear A3 e3 t3 hb3 hl3 hl3e HLS f2 f3 HK12 HB12
      go_wp2_with fail
      refine hDV.mono ?_
      rintro e w4 ⟨rfl, hb4⟩
      have HB4 := hide (HB3.out.trans (hb4.mono HB3.out.size))
      have HA4 := hide (HA3.out.1.below hb4)
      have hFU : Calls Tryz.prog 121 #[cutV (.slice aq lq kq) (.slice ar lr kr) (.slice a3 l3 k3) b1 ap] w4 (fun e w' => e = .returned (.bool fu) ∧ Below w4.heap.size w4 w') := (fur1 aq ar a3 lq kq lr kr l3 k3 b1 ap w4).mono (fun e w' h => ⟨h.1.trans (by rw [HFU.out]), h.2⟩)
      clear hb4 hDV HB3
      go_wp2_with fail
      refine hFU.mono ?_
      rintro e w5 ⟨rfl, hb5⟩
      have hb45 := HB4.out.trans (hb5.mono HB4.out.size)
      have HR2' := hide (block_upW hb45 HR2.out)
      have HR3' := hide (block_upW hb45 HR3.out)
      have HQ5 := hide (And.intro (HQA2.out.1.below hb45) HQA2.out.2)
      have HR5 := hide (And.intro (HRA2.out.1.below hb45) HRA2.out.2)
      have HL5 := hide (And.intro ((HA4.out.below hb5).base (Nat.le_trans HWB.out.size (Nat.le_refl _))) (And.intro HA3.out.2.1 HA3.out.2.2.1))
      have HWB5 := hide (HWB.out.trans (hb45.mono HWB.out.size))
      have HLN3 := hide HA3.out.2.2.2
      clear hb5 hb45 hFU HA4 HB4 HA3 HR2 HR3 HWB HQA2 HRA2
      have HR2 := HR2'
      have HR3 := HR3'
      clear HR2' HR3'
      cases fu
      · have HQ := HQ5
        have HR := HR5
        have HWB := HWB5
        have hq9 := HQZ.out
        have hr9 := HRZ.out
        simp only [Bool.false_and, Bool.false_eq_true, if_false, Nat.add_zero] at hq9 hr9
        clear HQZ HRZ
        have HQZ := hide hq9
        have HRZ := hide hr9
        clear hq9 hr9 HQ5 HR5 HL5 HWB5
        obtain ⟨wv, hwv, hbv, hxv⟩ := enter1 w5 (.cells #[.slice aq lq kq, .slice ar lr kr] 25)
        have hAB := wanyBig_two w5.heap.size (.slice aq lq kq) (.slice ar lr kr) rq rr wv hxv ((HQ.out.1.arg HLQ.out.1).below hbv) ((HR.out.1.arg HLQ.out.2).below hbv)
        have HR2v := hide (block_upW hbv HR2.out)
        have HR3v := hide (block_upW hbv HR3.out)
        have HBV := hide (HWB.out.trans (hbv.mono HWB.out.size))
        have HQv := hide (HQ.out.1.below hbv)
        have HRv := hide (HR.out.1.below hbv)
        clear hbv hxv HR2 HR3
        by_cases hbig : 67108864 < blen (val rq) ∨ 67108864 < blen (val rr)
        · rw [decide_eq_true hbig] at hAB
          have HBIG := hide hbig
          clear hbig
          go_wp2_with fail
          refine hAB.mono ?_
          rintro e wn ⟨rfl, hw⟩; rw [hw]; clear hw wn hAB
          have HR2 := HR2v
          have HR3 := HR3v
          have HBE := HBV
          have hf2 := duof HR2.out
          have hf3 := duof HR3.out
          obtain ⟨m0, m1⟩ := duo HR2.out
          obtain ⟨m2, m3⟩ := duo HR3.out
          go_wp2
          have hq4 := quad (base := w.heap.size) (u0 := .bool false) (u1 := (.slice none 0 0)) (u2 := .bool false) (u3 := (.slice none 0 0)) HR2.out HR3.out
          have HD := hide (And.intro hq4.2.2 (quad_below HBE.out (g := w.heap.size + 2) (u0 := .bool false) (u1 := (.slice none 0 0)) (u2 := .bool false) (u3 := (.slice none 0 0)) (by omega)))
          obtain ⟨R5, R6, _⟩ := hq4
          generalize (((wv.setCell ⟨w.heap.size + 2, 0, none⟩ (.bool false)).setCell ⟨w.heap.size + 2, 1, none⟩ ((.slice none 0 0))).setCell ⟨w.heap.size + 2 + 1, 0, none⟩ (.bool false)).setCell ⟨w.heap.size + 2 + 1, 1, none⟩ ((.slice none 0 0)) = w5 at *
          obtain ⟨q0, q1⟩ := duo R5
          obtain ⟨q2, q3⟩ := duo R6
          refine bodyPost_ret (v := .tuple #[.agg #[.bool false, (.slice none 0 0)], .agg #[.bool false, (.slice none 0 0)], .int .i64 3]) (by simp [results, Tryz.results66, go_sem, q0, q1, q2, q3]) rfl ?_
          refine ⟨⟨_, _, _, _, _, _, _, _, 3, rfl, [], [], Ans.nil _ _, Ans.nil _ _, .inl rfl, .inr ⟨rfl, rfl, rfl, rfl, rfl, rfl, rfl, ?_⟩⟩, HD.out.2⟩
          rw [HQZ.out, HRZ.out, zz_abs, zz_abs, ← HQ.out.2.1, ← HR.out.2.1]
          exact HBIG.out
        · rw [decide_eq_false hbig] at hAB
          have HBIG := hide hbig
          clear hbig
          go_wp2_with fail
          refine hAB.mono ?_
          rintro e wn ⟨rfl, hw⟩; rw [hw]; clear hw wn hAB
          have hS1 := wsigned_any ap (.slice aq lq kq) rq _ wv HQv.out
          rw [zz_sign ap HQ.out.2.2 HQ.out.2.1, ← HQZ.out] at hS1
          go_wp2_with fail
          refine hS1.mono ?_
          rintro e ws ⟨rfl, hbs⟩
          have hS2 := wsigned_any b1 (.slice ar lr kr) rr _ ws (HRv.out.below hbs)
          rw [zz_sign b1 HR.out.2.2 HR.out.2.1, ← HRZ.out] at hS2
          have HBS := hide hbs
          clear hbs hS1
          go_wp2_with fail
          refine hS2.mono ?_
          rintro e wt ⟨rfl, hbt⟩
          have hbst := HBS.out.trans (hbt.mono HBS.out.size)
          have HR2 := hide (block_upW hbst HR2v.out)
          have HR3 := hide (block_upW hbst HR3v.out)
          have HBE := hide (HBV.out.trans (hbst.mono HBV.out.size))
          have HQt := hide (HQv.out.below hbst)
          have HRt := hide (HRv.out.below hbst)
          have hf2 := duof HR2.out
          have hf3 := duof HR3.out
          obtain ⟨m0, m1⟩ := duo HR2.out
          obtain ⟨m2, m3⟩ := duo HR3.out
          clear hbt hbst hS2 HR2v HR3v hwv
          obtain ⟨uq, huq⟩ : ∃ ub, decide (qz < 0) = ub := ⟨_, rfl⟩
          obtain ⟨ur, hur⟩ : ∃ ub, decide (rz < 0) = ub := ⟨_, rfl⟩
          rw [huq, hur]
          go_wp2
          have hq4 := quad (base := w.heap.size) (u0 := .bool uq) (u1 := (.slice aq lq kq)) (u2 := .bool ur) (u3 := (.slice ar lr kr)) HR2.out HR3.out
          have HD := hide (And.intro hq4.2.2 (quad_below HBE.out (g := w.heap.size + 2) (u0 := .bool uq) (u1 := (.slice aq lq kq)) (u2 := .bool ur) (u3 := (.slice ar lr kr)) (by omega)))
          obtain ⟨R5, R6, _⟩ := hq4
          generalize (((wt.setCell ⟨w.heap.size + 2, 0, none⟩ (.bool uq)).setCell ⟨w.heap.size + 2, 1, none⟩ ((.slice aq lq kq))).setCell ⟨w.heap.size + 2 + 1, 0, none⟩ (.bool ur)).setCell ⟨w.heap.size + 2 + 1, 1, none⟩ ((.slice ar lr kr)) = w5 at *
          obtain ⟨q0, q1⟩ := duo R5
          obtain ⟨q2, q3⟩ := duo R6
          refine bodyPost_ret (v := .tuple #[.agg #[.bool uq, (.slice aq lq kq)], .agg #[.bool ur, (.slice ar lr kr)], .int .i64 0]) (by simp [results, Tryz.results66, go_sem, q0, q1, q2, q3]) rfl ?_
          refine ⟨⟨_, _, _, _, _, _, _, _, 0, rfl, rq, rr, HD.out.1 _ _ HQt.out, HD.out.1 _ _ HRt.out, HAP.out, .inl ⟨rfl, huq.symm, ?_, HQ.out.2.2, hur.symm, ?_, HR.out.2.2, ?_, ?_⟩⟩, HD.out.2⟩
          · rw [HQZ.out, zz_abs]; exact HQ.out.2.1
          · rw [HRZ.out, zz_abs]; exact HR.out.2.1
          · rw [HQZ.out, zz_abs, ← HQ.out.2.1]; have := HBIG.out; omega
          · rw [HRZ.out, zz_abs, ← HR.out.2.1]; have := HBIG.out; omega
      · obtain ⟨w6, hw6, hb6, hx6⟩ := enter1 w5 (.cells #[.int .u64 1] 64)
        have hblk : Blk w6 w5.heap.size [1] := hx6
        have A6 := Ans.of_blk (base := w5.heap.size) (zs := [1]) (Nat.le_refl _) hblk (by simp) (by simp) (by simp) (by intro z hz; simp at hz; omega)
        have hSM := wsum_any (.slice aq lq kq) (.slice (some ⟨w5.heap.size, 0, none⟩) 1 1) rq [1] w6 ((HQ5.out.1.arg HLQ.out.1).below hb6) (A6.arg (by simp)) (by have := HLN.out.1; omega) (by simp)
        rw [HQ5.out.2.1, show val [1] = 1 from by simp [val]] at hSM
        have HB6 := hide hb6
        clear hb6 hx6 hblk A6
        go_wp2_with fail
        refine hSM.mono ?_
        rintro e w7 ⟨⟨v7, r7, rfl, A7, e7, t7⟩, hb7⟩
        obtain ⟨a7, k7, rfl⟩ := A7.shape
        have hb67 := HB6.out.trans (hb7.mono HB6.out.size)
        have HR2' := hide (block_upW hb67 HR2.out)
        have HR3' := hide (block_upW hb67 HR3.out)
        have HWB := hide (HWB5.out.trans (hb67.mono HWB5.out.size))
        have hl7 : r7.length ≤ rq.length + 1 := by
          rw [← t7]; refine tr_len_lt r7 _ ?_
          rw [e7]
          have h1 := val_lt HQ5.out.1.limbs
          rw [HQ5.out.2.1] at h1
          rw [Nat.pow_succ]
          have h0 := W_pos rq.length
          generalize 18446744073709551616 ^ rq.length = P9 at *
          omega
        have hlqx := HLN.out.1
        obtain ⟨l7, hl7e⟩ : ∃ l7, r7.length = l7 := ⟨_, rfl⟩
        rw [hl7e] at A7 ⊢
        have hAP7 := apart_of2 (v2 := .slice a3 l3 k3) (fun g hg => Nat.lt_of_lt_of_le (HL5.out.1.own.lt g hg).2 HB6.out.size) A7
        have hs57 : w.heap.size ≤ w6.heap.size := Nat.le_trans HWB5.out.size HB6.out.size
        have HQ := hide (And.intro (A7.base hs57) (And.intro e7 t7))
        have HR := hide (And.intro (HL5.out.1.below hb67) HL5.out.2)
        have hq9 := HQZ.out
        have hr9 := HRZ.out
        rw [decide_eq_true hr0] at hq9 hr9
        simp only [Bool.true_and, if_true] at hq9 hr9
        clear HQ5 HR5 HAP HLQ HR2 HR3 HWB5 HQZ HRZ
        have HAP := hide hAP7
        have HLQ := hide (And.intro (show r7.length ≤ 1125899906842624 by omega) HLN3.out)
        have HR2 := HR2'
        have HR3 := HR3'
        have HQZ := hide hq9
        have HRZ := hide hr9
        clear hq9 hr9 HL5 hb7 hb67 A7 e7 t7 hSM HB6 hs57 HR2' HR3' hw6
        obtain ⟨wv, hwv, hbv, hxv⟩ := enter1 w7 (.cells #[.slice a7 l7 k7, .slice a3 l3 k3] 25)
        have hAB := wanyBig_two w7.heap.size (.slice a7 l7 k7) (.slice a3 l3 k3) r7 r3 wv hxv ((HQ.out.1.arg HLQ.out.1).below hbv) ((HR.out.1.arg HLQ.out.2).below hbv)
        have HR2v := hide (block_upW hbv HR2.out)
        have HR3v := hide (block_upW hbv HR3.out)
        have HBV := hide (HWB.out.trans (hbv.mono HWB.out.size))
        have HQv := hide (HQ.out.1.below hbv)
        have HRv := hide (HR.out.1.below hbv)
        clear hbv hxv HR2 HR3
        by_cases hbig : 67108864 < blen (val r7) ∨ 67108864 < blen (val r3)
        · rw [decide_eq_true hbig] at hAB
          have HBIG := hide hbig
          clear hbig
          go_wp2_with fail
          refine hAB.mono ?_
          rintro e wn ⟨rfl, hw⟩; rw [hw]; clear hw wn hAB
          have HR2 := HR2v
          have HR3 := HR3v
          have HBE := HBV
          have hf2 := duof HR2.out
          have hf3 := duof HR3.out
          obtain ⟨m0, m1⟩ := duo HR2.out
          obtain ⟨m2, m3⟩ := duo HR3.out
          go_wp2
          have hq4 := quad (base := w.heap.size) (u0 := .bool false) (u1 := (.slice none 0 0)) (u2 := .bool false) (u3 := (.slice none 0 0)) HR2.out HR3.out
          have HD := hide (And.intro hq4.2.2 (quad_below HBE.out (g := w.heap.size + 2) (u0 := .bool false) (u1 := (.slice none 0 0)) (u2 := .bool false) (u3 := (.slice none 0 0)) (by omega)))
          obtain ⟨R5, R6, _⟩ := hq4
          generalize (((wv.setCell ⟨w.heap.size + 2, 0, none⟩ (.bool false)).setCell ⟨w.heap.size + 2, 1, none⟩ ((.slice none 0 0))).setCell ⟨w.heap.size + 2 + 1, 0, none⟩ (.bool false)).setCell ⟨w.heap.size + 2 + 1, 1, none⟩ ((.slice none 0 0)) = w5 at *
          obtain ⟨q0, q1⟩ := duo R5
          obtain ⟨q2, q3⟩ := duo R6
          refine bodyPost_ret (v := .tuple #[.agg #[.bool false, (.slice none 0 0)], .agg #[.bool false, (.slice none 0 0)], .int .i64 3]) (by simp [results, Tryz.results66, go_sem, q0, q1, q2, q3]) rfl ?_
          refine ⟨⟨_, _, _, _, _, _, _, _, 3, rfl, [], [], Ans.nil _ _, Ans.nil _ _, .inl rfl, .inr ⟨rfl, rfl, rfl, rfl, rfl, rfl, rfl, ?_⟩⟩, HD.out.2⟩
          rw [HQZ.out, HRZ.out, zz_abs, zz_abs, ← HQ.out.2.1, ← HR.out.2.1]
          exact HBIG.out
        · rw [decide_eq_false hbig] at hAB
          have HBIG := hide hbig
          clear hbig
          go_wp2_with fail
          refine hAB.mono ?_
          rintro e wn ⟨rfl, hw⟩; rw [hw]; clear hw wn hAB
          have hS1 := wsigned_any ap (.slice a7 l7 k7) r7 _ wv HQv.out
          rw [zz_sign ap HQ.out.2.2 HQ.out.2.1, ← HQZ.out] at hS1
          go_wp2_with fail
          refine hS1.mono ?_
          rintro e ws ⟨rfl, hbs⟩
          have hS2 := wsigned_any (!b1) (.slice a3 l3 k3) r3 _ ws (HRv.out.below hbs)
          rw [zz_sign (!b1) HR.out.2.2 HR.out.2.1, ← HRZ.out] at hS2
          have HBS := hide hbs
          clear hbs hS1
          go_wp2_with fail
          refine hS2.mono ?_
          rintro e wt ⟨rfl, hbt⟩
          have hbst := HBS.out.trans (hbt.mono HBS.out.size)
          have HR2 := hide (block_upW hbst HR2v.out)
          have HR3 := hide (block_upW hbst HR3v.out)
          have HBE := hide (HBV.out.trans (hbst.mono HBV.out.size))
          have HQt := hide (HQv.out.below hbst)
          have HRt := hide (HRv.out.below hbst)
          have hf2 := duof HR2.out
          have hf3 := duof HR3.out
          obtain ⟨m0, m1⟩ := duo HR2.out
          obtain ⟨m2, m3⟩ := duo HR3.out
          clear hbt hbst hS2 HR2v HR3v hwv
          obtain ⟨uq, huq⟩ : ∃ ub, decide (qz < 0) = ub := ⟨_, rfl⟩
          obtain ⟨ur, hur⟩ : ∃ ub, decide (rz < 0) = ub := ⟨_, rfl⟩
          rw [huq, hur]
          go_wp2
          have hq4 := quad (base := w.heap.size) (u0 := .bool uq) (u1 := (.slice a7 l7 k7)) (u2 := .bool ur) (u3 := (.slice a3 l3 k3)) HR2.out HR3.out
          have HD := hide (And.intro hq4.2.2 (quad_below HBE.out (g := w.heap.size + 2) (u0 := .bool uq) (u1 := (.slice a7 l7 k7)) (u2 := .bool ur) (u3 := (.slice a3 l3 k3)) (by omega)))
          obtain ⟨R5, R6, _⟩ := hq4
          generalize (((wt.setCell ⟨w.heap.size + 2, 0, none⟩ (.bool uq)).setCell ⟨w.heap.size + 2, 1, none⟩ ((.slice a7 l7 k7))).setCell ⟨w.heap.size + 2 + 1, 0, none⟩ (.bool ur)).setCell ⟨w.heap.size + 2 + 1, 1, none⟩ ((.slice a3 l3 k3)) = w5 at *
          obtain ⟨q0, q1⟩ := duo R5
          obtain ⟨q2, q3⟩ := duo R6
          refine bodyPost_ret (v := .tuple #[.agg #[.bool uq, (.slice a7 l7 k7)], .agg #[.bool ur, (.slice a3 l3 k3)], .int .i64 0]) (by simp [results, Tryz.results66, go_sem, q0, q1, q2, q3]) rfl ?_
          refine ⟨⟨_, _, _, _, _, _, _, _, 0, rfl, r7, r3, HD.out.1 _ _ HQt.out, HD.out.1 _ _ HRt.out, HAP.out, .inl ⟨rfl, huq.symm, ?_, HQ.out.2.2, hur.symm, ?_, HR.out.2.2, ?_, ?_⟩⟩, HD.out.2⟩
          · rw [HQZ.out, zz_abs]; exact HQ.out.2.1
          · rw [HRZ.out, zz_abs]; exact HR.out.2.1
          · rw [HQZ.out, zz_abs, ← HQ.out.2.1]; have := HBIG.out; omega
          · rw [HRZ.out, zz_abs, ← HR.out.2.1]; have := HBIG.out; omega
    · have i3 : ¬ (0 : Int) < (lr : Int) := by omega
      have hr0 : val X % val Y = 0 := by omega
      have HQ := HQA2
      have HR := HRA2
      have hfz : (fu && decide (0 < val X % val Y)) = false := by rw [hr0]; simp
      have hq9 := HQZ.out
      have hr9 := HRZ.out
      rw [hfz] at hq9 hr9
      simp only [Bool.false_eq_true, if_false, Nat.add_zero] at hq9 hr9
      clear HQZ HRZ
      have HQZ := hide hq9
      have HRZ := hide hr9
      clear hq9 hr9 hfz HQA2 HRA2 hnz f2 f3 HK12 HB12
      obtain ⟨wv, hwv, hbv, hxv⟩ := enter1 wq (.cells #[.slice aq lq kq, .slice ar lr kr] 25)
      have hAB := wanyBig_two wq.heap.size (.slice aq lq kq) (.slice ar lr kr) rq rr wv hxv ((HQ.out.1.arg HLQ.out.1).below hbv) ((HR.out.1.arg HLQ.out.2).below hbv)
      have HR2v := hide (block_upW hbv HR2.out)
      have HR3v := hide (block_upW hbv HR3.out)
      have HBV := hide (HWB.out.trans (hbv.mono HWB.out.size))
      have HQv := hide (HQ.out.1.below hbv)
      have HRv := hide (HR.out.1.below hbv)
      clear hbv hxv HR2 HR3
      by_cases hbig : 67108864 < blen (val rq) ∨ 67108864 < blen (val rr)
      · rw [decide_eq_true hbig] at hAB
        have HBIG := hide hbig
        clear hbig
        go_wp2_with fail
        refine hAB.mono ?_
        rintro e wn ⟨rfl, hw⟩; rw [hw]; clear hw wn hAB
        have HR2 := HR2v
        have HR3 := HR3v
        have HBE := HBV
        have hf2 := duof HR2.out
        have hf3 := duof HR3.out
        obtain ⟨m0, m1⟩ := duo HR2.out
        obtain ⟨m2, m3⟩ := duo HR3.out
        go_wp2
        have hq4 := quad (base := w.heap.size) (u0 := .bool false) (u1 := (.slice none 0 0)) (u2 := .bool false) (u3 := (.slice none 0 0)) HR2.out HR3.out
        have HD := hide (And.intro hq4.2.2 (quad_below HBE.out (g := w.heap.size + 2) (u0 := .bool false) (u1 := (.slice none 0 0)) (u2 := .bool false) (u3 := (.slice none 0 0)) (by omega)))
        obtain ⟨R5, R6, _⟩ := hq4
        generalize (((wv.setCell ⟨w.heap.size + 2, 0, none⟩ (.bool false)).setCell ⟨w.heap.size + 2, 1, none⟩ ((.slice none 0 0))).setCell ⟨w.heap.size + 2 + 1, 0, none⟩ (.bool false)).setCell ⟨w.heap.size + 2 + 1, 1, none⟩ ((.slice none 0 0)) = w5 at *
        obtain ⟨q0, q1⟩ := duo R5
        obtain ⟨q2, q3⟩ := duo R6
        refine bodyPost_ret (v := .tuple #[.agg #[.bool false, (.slice none 0 0)], .agg #[.bool false, (.slice none 0 0)], .int .i64 3]) (by simp [results, Tryz.results66, go_sem, q0, q1, q2, q3]) rfl ?_
        refine ⟨⟨_, _, _, _, _, _, _, _, 3, rfl, [], [], Ans.nil _ _, Ans.nil _ _, .inl rfl, .inr ⟨rfl, rfl, rfl, rfl, rfl, rfl, rfl, ?_⟩⟩, HD.out.2⟩
        rw [HQZ.out, HRZ.out, zz_abs, zz_abs, ← HQ.out.2.1, ← HR.out.2.1]
        exact HBIG.out
      · rw [decide_eq_false hbig] at hAB
        have HBIG := hide hbig
        clear hbig
        go_wp2_with fail
        refine hAB.mono ?_
        rintro e wn ⟨rfl, hw⟩; rw [hw]; clear hw wn hAB
        have hS1 := wsigned_any ap (.slice aq lq kq) rq _ wv HQv.out
        rw [zz_sign ap HQ.out.2.2 HQ.out.2.1, ← HQZ.out] at hS1
        go_wp2_with fail
        refine hS1.mono ?_
        rintro e ws ⟨rfl, hbs⟩
        have hS2 := wsigned_any b1 (.slice ar lr kr) rr _ ws (HRv.out.below hbs)
        rw [zz_sign b1 HR.out.2.2 HR.out.2.1, ← HRZ.out] at hS2
        have HBS := hide hbs
        clear hbs hS1
        go_wp2_with fail
        refine hS2.mono ?_
        rintro e wt ⟨rfl, hbt⟩
        have hbst := HBS.out.trans (hbt.mono HBS.out.size)
        have HR2 := hide (block_upW hbst HR2v.out)
        have HR3 := hide (block_upW hbst HR3v.out)
        have HBE := hide (HBV.out.trans (hbst.mono HBV.out.size))
        have HQt := hide (HQv.out.below hbst)
        have HRt := hide (HRv.out.below hbst)
        have hf2 := duof HR2.out
        have hf3 := duof HR3.out
        obtain ⟨m0, m1⟩ := duo HR2.out
        obtain ⟨m2, m3⟩ := duo HR3.out
        clear hbt hbst hS2 HR2v HR3v hwv
        obtain ⟨uq, huq⟩ : ∃ ub, decide (qz < 0) = ub := ⟨_, rfl⟩
        obtain ⟨ur, hur⟩ : ∃ ub, decide (rz < 0) = ub := ⟨_, rfl⟩
        rw [huq, hur]
        go_wp2
        have hq4 := quad (base := w.heap.size) (u0 := .bool uq) (u1 := (.slice aq lq kq)) (u2 := .bool ur) (u3 := (.slice ar lr kr)) HR2.out HR3.out
        have HD := hide (And.intro hq4.2.2 (quad_below HBE.out (g := w.heap.size + 2) (u0 := .bool uq) (u1 := (.slice aq lq kq)) (u2 := .bool ur) (u3 := (.slice ar lr kr)) (by omega)))
        obtain ⟨R5, R6, _⟩ := hq4
        generalize (((wt.setCell ⟨w.heap.size + 2, 0, none⟩ (.bool uq)).setCell ⟨w.heap.size + 2, 1, none⟩ ((.slice aq lq kq))).setCell ⟨w.heap.size + 2 + 1, 0, none⟩ (.bool ur)).setCell ⟨w.heap.size + 2 + 1, 1, none⟩ ((.slice ar lr kr)) = w5 at *
        obtain ⟨q0, q1⟩ := duo R5
        obtain ⟨q2, q3⟩ := duo R6
        refine bodyPost_ret (v := .tuple #[.agg #[.bool uq, (.slice aq lq kq)], .agg #[.bool ur, (.slice ar lr kr)], .int .i64 0]) (by simp [results, Tryz.results66, go_sem, q0, q1, q2, q3]) rfl ?_
        refine ⟨⟨_, _, _, _, _, _, _, _, 0, rfl, rq, rr, HD.out.1 _ _ HQt.out, HD.out.1 _ _ HRt.out, HAP.out, .inl ⟨rfl, huq.symm, ?_, HQ.out.2.2, hur.symm, ?_, HR.out.2.2, ?_, ?_⟩⟩, HD.out.2⟩
        · rw [HQZ.out, zz_abs]; exact HQ.out.2.1
        · rw [HRZ.out, zz_abs]; exact HR.out.2.1
        · rw [HQZ.out, zz_abs, ← HQ.out.2.1]; have := HBIG.out; omega
        · rw [HRZ.out, zz_abs, ← HR.out.2.1]; have := HBIG.out; omega

end Go.Proofs.YtfgcngndiblpmaaGreatDoor

/- Package whole: divide, upwards. -/
namespace Go.Proofs.YtfgcngndiblpmaaGreatDoor
open Go.RowKit
open Lm
attribute [local go_sem ↓] Go.wp_at_zero Go.wp_at_succ

set_option maxRecDepth 20000 in
set_option maxHeartbeats 4000000 in
attribute [local go_sem] pick3 fld3 in
theorem wdivide_3 (b1 : Bool) (v : Value) (X : List Nat) (b2 : Bool) (u : Value) (Y : List Nat) (ap fu : Bool) (qz rz : Int) (w : World) (hA : Arg w v X) (hB : Arg w u Y) (hT : Tab w) (hx : X.length ≤ 17592186043904) (hy : Y.length ≤ 17592186043904) (hy0 : 0 < val Y)
    (hap : (b1 != b2) = ap) (hfu : (!ap) = fu)
    (hqz : qz = zz ap (val X / val Y + if fu && decide (0 < val X % val Y) then 1 else 0)) (hrz : rz = zz (if fu && decide (0 < val X % val Y) then !b1 else b1) (if fu && decide (0 < val X % val Y) then val Y - val X % val Y else val X % val Y)) :
    Calls Tryz.prog 66 #[.int .i64 2, .agg #[.bool b1, v], .agg #[.bool b2, u]] w (WDivDone w qz rz) := by
  have hap2 : (!(b1 == b2)) = ap := hap
  have HFU := hide hfu
  clear hfu
  obtain ⟨a, n, rfl, hn1, hn2, _⟩ := hA.form
  obtain ⟨a9, n9, rfl, hn3, hn4, _⟩ := hB.form
  obtain ⟨w0, hw0, hb0, h0, h1, h2, h3⟩ := enter4 w (.cells #[.bool b1, .slice a X.length n] 27) (.cells #[.bool b2, .slice a9 Y.length n9] 27) (.cells #[.bool false, .slice none 0 0] 27) (.cells #[.bool false, .slice none 0 0] 27)
  obtain ⟨k0, k1⟩ := duo h0
  obtain ⟨k2, k3⟩ := duo h1
  have hbx : blen (val X) ≤ 64 * X.length := blen_val_le X hA.limbs
  have hby : blen (val Y) ≤ 64 * Y.length := blen_val_le Y hB.limbs
  have HZ := wisZero_any _ Y w0 (hB.below hb0)
  rw [decide_eq_false (by omega)] at HZ
  obtain ⟨wd, hwd⟩ : ∃ wd, w0.drew = wd := ⟨_, rfl⟩
  have hbd : Below w0.heap.size w0 wd := by rw [← hwd]; exact (Below.refl _ _).drew
  have hbwd := hb0.trans (hbd.mono hb0.size)
  have L1 := length_val _ X wd (hA.below hbwd)
  have L2 := length_val _ Y wd (hB.below hbwd)
  have g0 := block_upW hbd h0
  have g1 := block_upW hbd h1
  obtain ⟨d0, d1⟩ := duo g0
  obtain ⟨d2, d3⟩ := duo g1
  have HG0 := hide g0
  have HG1 := hide g1
  have HG2 := hide (block_upW hbd h2)
  have HG3 := hide (block_upW hbd h3)
  have HWD := hide hbwd
  obtain ⟨dd, hdd⟩ : ∃ dd : Int, ((blen (val X) : Nat) : Int) - ((blen (val Y) : Nat) : Int) = dd := ⟨_, rfl⟩
  have wdd : IntKind.i64.wrap dd = dd := by rw [IntKind.wrap_i64]; omega
  have wdd2 : IntKind.i64.wrap (((blen (val X) : Nat) : Int) - ((blen (val Y) : Nat) : Int)) = dd := by rw [IntKind.wrap_i64]; omega
  have HQZ := hide hqz
  have HRZ := hide hrz
  have HA := hide (hA.below hbwd)
  have HB := hide (hB.below hbwd)
  have HT := hide (hT.below hbwd)
  by_cases hbig : 67108864 + blen (val Y) < blen (val X)
  · have i1 : (67108864 : Int) < dd := by omega
    have HBQ : Hid (67108864 < blen qz.natAbs) := by
      refine hide ?_
      rw [hqz, zz_abs]
      refine Nat.lt_of_lt_of_le ?_ (blen_mono (Nat.le_add_right _ _))
      exact blen_quo_ge (by omega) hbig
    generalize blen (val X) = lx at *
    generalize blen (val Y) = ly at *
    clear hA hB hT hb0 h0 h1 h2 h3 hbd hbwd g0 g1 HQZ HRZ hqz hrz hbig
    go_enter Tryz.func66, Tryz.ntmps66
    go_wp2_with fail
    refine HZ.mono ?_
    rintro e wn ⟨rfl, hw⟩; rw [hw]; clear hw wn HZ
    go_wp2
    go_region_held3 (fun w' => w'.cell? ⟨w.heap.size, 1, none⟩ = some (.slice a X.length n) ∧ w'.cell? ⟨w.heap.size + 1, 1, none⟩ = some (.slice a9 Y.length n9)) (go_keep) (first
      | (go_at_call_of 93 a; (try rw [hwd]); refine L1.mono ?_; rintro e' wn ⟨rfl, hw⟩; rw [hw]; clear hw wn)
      | (go_at_call_of 93 a9; (try rw [hwd]); refine L2.mono ?_; rintro e' wn ⟨rfl, hw⟩; rw [hw]; clear hw wn))

    have HR2 := HG2
    have HR3 := HG3
    have HBE := HWD
    have hf2 := duof HR2.out
    have hf3 := duof HR3.out
    obtain ⟨m0, m1⟩ := duo HR2.out
    obtain ⟨m2, m3⟩ := duo HR3.out
    go_wp2
    have hq4 := quad (base := w.heap.size) (u0 := .bool false) (u1 := (.slice none 0 0)) (u2 := .bool false) (u3 := (.slice none 0 0)) HR2.out HR3.out
    have HD := hide (And.intro hq4.2.2 (quad_below HBE.out (g := w.heap.size + 2) (u0 := .bool false) (u1 := (.slice none 0 0)) (u2 := .bool false) (u3 := (.slice none 0 0)) (by omega)))
    obtain ⟨R5, R6, _⟩ := hq4
    generalize (((wd.setCell ⟨w.heap.size + 2, 0, none⟩ (.bool false)).setCell ⟨w.heap.size + 2, 1, none⟩ ((.slice none 0 0))).setCell ⟨w.heap.size + 2 + 1, 0, none⟩ (.bool false)).setCell ⟨w.heap.size + 2 + 1, 1, none⟩ ((.slice none 0 0)) = w5 at *
    obtain ⟨q0, q1⟩ := duo R5
    obtain ⟨q2, q3⟩ := duo R6
    refine bodyPost_ret (v := .tuple #[.agg #[.bool false, (.slice none 0 0)], .agg #[.bool false, (.slice none 0 0)], .int .i64 3]) (by simp [results, Tryz.results66, go_sem, q0, q1, q2, q3]) rfl ?_
    exact ⟨⟨_, _, _, _, _, _, _, _, 3, rfl, [], [], Ans.nil _ _, Ans.nil _ _, .inl rfl, .inr ⟨rfl, rfl, rfl, rfl, rfl, rfl, rfl, .inl HBQ.out⟩⟩, HD.out.2⟩
  · have i1 : ¬ (67108864 : Int) < dd := by omega
    have HBO := wboth_any (blen (val X)) X Y _ _ wd (by omega) HA.out HB.out HT.out (by omega) (by omega) hy0
    generalize blen (val X) = lx at *
    generalize blen (val Y) = ly at *
    clear hA hB hT hb0 h0 h1 h2 h3 hbd hbwd g0 g1 hqz hrz hbig
    go_enter Tryz.func66, Tryz.ntmps66
    go_wp2_with fail
    refine HZ.mono ?_
    rintro e wn ⟨rfl, hw⟩; rw [hw]; clear hw wn HZ
    go_wp2
    go_region_held3 (fun w' => w'.cell? ⟨w.heap.size, 1, none⟩ = some (.slice a X.length n) ∧ w'.cell? ⟨w.heap.size + 1, 1, none⟩ = some (.slice a9 Y.length n9)) (go_keep) (first
      | (go_at_call_of 93 a; (try rw [hwd]); refine L1.mono ?_; rintro e' wn ⟨rfl, hw⟩; rw [hw]; clear hw wn)
      | (go_at_call_of 93 a9; (try rw [hwd]); refine L2.mono ?_; rintro e' wn ⟨rfl, hw⟩; rw [hw]; clear hw wn))

    go_wp2_with fail
    refine HBO.mono ?_
    rintro e w1 ⟨⟨v1, v2, rq, rr, rfl, A1, A2, e1, t1, e2, t2, hapt⟩, hb1⟩
    obtain ⟨aq, kq, rfl⟩ := A1.shape
    obtain ⟨ar, kr, rfl⟩ := A2.shape
    have hlq : rq.length ≤ X.length := by
      rw [← t1]; refine tr_len_lt rq _ ?_
      rw [e1]; exact Nat.lt_of_le_of_lt (Nat.div_le_self _ _) (val_lt HA.out.limbs)
    have hlr : rr.length ≤ Y.length := by
      rw [← t2]; refine tr_len_lt rr _ ?_
      rw [e2]; exact Nat.lt_trans (Nat.mod_lt _ hy0) (val_lt HB.out.limbs)
    have hnz := norm_zero t2
    rw [e2] at hnz
    have HWB := hide (HWD.out.trans (hb1.mono HWD.out.size))
    have HK0 := hide (block_upW hb1 HG0.out)
    have HK1 := hide (block_upW hb1 HG1.out)
    have HR2 := hide (block_upW hb1 HG2.out)
    have HR3 := hide (block_upW hb1 HG3.out)
    have HB1 := hide (HB.out.below hb1)
    have HT1 := hide (HT.out.below hb1)
    have HQA := hide (And.intro (A1.base HWD.out.size) (And.intro e1 t1))
    have HRA := hide (And.intro (A2.base HWD.out.size) (And.intro e2 t2))
    have HAP := hide hapt
    have HLQ := hide (And.intro (show rq.length ≤ 1125899906842624 by omega) (show rr.length ≤ 1125899906842624 by omega))
    obtain ⟨f0, f1⟩ := duo HK0.out
    obtain ⟨f2, f3⟩ := duo HK1.out
    obtain ⟨lq, hnq⟩ : ∃ lq, rq.length = lq := ⟨_, rfl⟩
    obtain ⟨lr, hnr⟩ : ∃ lr, rr.length = lr := ⟨_, rfl⟩
    rw [hnq] at HQA HAP ⊢
    rw [hnr] at HRA HAP ⊢
    have HLN := hide (And.intro hlq (And.intro hlr (And.intro hnq hnr)))
    rw [hnr] at hnz
    clear A1 A2 e1 e2 t1 t2 hapt hb1 HBO k0 k1 k2 k3 d0 d1 d2 d3 hlq hlr hnq hnr HG0 HG1 HG2 HG3 HA HB HT L1 L2
    go_wp2
    go_quiet (fail)
    obtain ⟨wq, hwq⟩ : ∃ wq, wq = w1.drewN nq := ⟨_, rfl⟩
    have hbq : Below w1.heap.size w1 wq := by rw [hwq]; exact ((Same.refl w1).drewN nq).below _
    rw [← hwq]
    have HWB2 := hide (HWB.out.trans (hbq.mono HWB.out.size))
    have HK12 := hide (block_upW hbq HK1.out)
    have HR22 := hide (block_upW hbq HR2.out)
    have HR32 := hide (block_upW hbq HR3.out)
    have HB12 := hide (HB1.out.below hbq)
    have HQA2 := hide (And.intro (HQA.out.1.below hbq) HQA.out.2)
    have HRA2 := hide (And.intro (HRA.out.1.below hbq) HRA.out.2)
    clear HWB HK0 HK1 HR2 HR3 HB1 HQA HRA f0 f1 f2 f3 hwq hbq HT1
    have HWB := HWB2
    have HR2 := HR22
    have HR3 := HR32
    obtain ⟨f2, f3⟩ := duo HK12.out
    clear HWB2 HR22 HR32
    by_cases hr : 0 < lr
    · have i3 : (0 : Int) < (lr : Int) := by omega
      have hr0 : 0 < val X % val Y := by omega
      have hml := Nat.mod_lt (val X) hy0
      clear hnz
      have HLS := wless_any _ (.slice ar lr kr) Y rr wq HB12.out (HRA2.out.1.arg HLQ.out.2) (by omega) (by rw [HRA2.out.2.1]; omega)
      rw [HRA2.out.2.1] at HLS
      go_wp2_with fail
      refine HLS.mono ?_
      rintro e w3 ⟨⟨v3, r3, rfl, A3, e3, t3⟩, hb3⟩
      obtain ⟨a3, k3, rfl⟩ := A3.shape
      have hl3 : r3.length ≤ Y.length := by
        rw [← t3]; refine tr_len_lt r3 _ ?_
        rw [e3]; exact Nat.lt_of_le_of_lt (Nat.sub_le _ _) (val_lt HB12.out.limbs)
      obtain ⟨l3, hl3e⟩ : ∃ l3, r3.length = l3 := ⟨_, rfl⟩
      rw [hl3e] at A3 ⊢
      have hDV := wdivs_any w3
      have HB3 := hide hb3
      have HA3 := hide (And.intro A3 (And.intro e3 (And.intro t3 (show r3.length ≤ 1125899906842624 by omega))))
      clear A3 e3 t3 hb3 hl3 hl3e HLS f2 f3 HK12 HB12
      go_wp2_with fail
      refine hDV.mono ?_
      rintro e w4 ⟨rfl, hb4⟩
      have HB4 := hide (HB3.out.trans (hb4.mono HB3.out.size))
      have HA4 := hide (HA3.out.1.below hb4)
      have hFU : Calls Tryz.prog 123 #[cutV (.slice aq lq kq) (.slice ar lr kr) (.slice a3 l3 k3) b1 ap] w4 (fun e w' => e = .returned (.bool fu) ∧ Below w4.heap.size w4 w') := (fur3 aq ar a3 lq kq lr kr l3 k3 b1 ap w4).mono (fun e w' h => ⟨h.1.trans (by rw [HFU.out]), h.2⟩)
      clear hb4 hDV HB3
      go_wp2_with fail
      refine hFU.mono ?_
      rintro e w5 ⟨rfl, hb5⟩
      have hb45 := HB4.out.trans (hb5.mono HB4.out.size)
      have HR2' := hide (block_upW hb45 HR2.out)
      have HR3' := hide (block_upW hb45 HR3.out)
      have HQ5 := hide (And.intro (HQA2.out.1.below hb45) HQA2.out.2)
      have HR5 := hide (And.intro (HRA2.out.1.below hb45) HRA2.out.2)
      have HL5 := hide (And.intro ((HA4.out.below hb5).base (Nat.le_trans HWB.out.size (Nat.le_refl _))) (And.intro HA3.out.2.1 HA3.out.2.2.1))
      have HWB5 := hide (HWB.out.trans (hb45.mono HWB.out.size))
      have HLN3 := hide HA3.out.2.2.2
      clear hb5 hb45 hFU HA4 HB4 HA3 HR2 HR3 HWB HQA2 HRA2
      have HR2 := HR2'
      have HR3 := HR3'
      clear HR2' HR3'
      cases fu
      · have HQ := HQ5
        have HR := HR5
        have HWB := HWB5
        have hq9 := HQZ.out
        have hr9 := HRZ.out
        simp only [Bool.false_and, Bool.false_eq_true, if_false, Nat.add_zero] at hq9 hr9
        clear HQZ HRZ
        have HQZ := hide hq9
        have HRZ := hide hr9
        clear hq9 hr9 HQ5 HR5 HL5 HWB5
        obtain ⟨wv, hwv, hbv, hxv⟩ := enter1 w5 (.cells #[.slice aq lq kq, .slice ar lr kr] 25)
        have hAB := wanyBig_two w5.heap.size (.slice aq lq kq) (.slice ar lr kr) rq rr wv hxv ((HQ.out.1.arg HLQ.out.1).below hbv) ((HR.out.1.arg HLQ.out.2).below hbv)
        have HR2v := hide (block_upW hbv HR2.out)
        have HR3v := hide (block_upW hbv HR3.out)
        have HBV := hide (HWB.out.trans (hbv.mono HWB.out.size))
        have HQv := hide (HQ.out.1.below hbv)
        have HRv := hide (HR.out.1.below hbv)
        clear hbv hxv HR2 HR3
        by_cases hbig : 67108864 < blen (val rq) ∨ 67108864 < blen (val rr)
        · rw [decide_eq_true hbig] at hAB
          have HBIG := hide hbig
          clear hbig
          go_wp2_with fail
          refine hAB.mono ?_
          rintro e wn ⟨rfl, hw⟩; rw [hw]; clear hw wn hAB
          have HR2 := HR2v
          have HR3 := HR3v
          have HBE := HBV
          have hf2 := duof HR2.out
          have hf3 := duof HR3.out
          obtain ⟨m0, m1⟩ := duo HR2.out
          obtain ⟨m2, m3⟩ := duo HR3.out
          go_wp2
          have hq4 := quad (base := w.heap.size) (u0 := .bool false) (u1 := (.slice none 0 0)) (u2 := .bool false) (u3 := (.slice none 0 0)) HR2.out HR3.out
          have HD := hide (And.intro hq4.2.2 (quad_below HBE.out (g := w.heap.size + 2) (u0 := .bool false) (u1 := (.slice none 0 0)) (u2 := .bool false) (u3 := (.slice none 0 0)) (by omega)))
          obtain ⟨R5, R6, _⟩ := hq4
          generalize (((wv.setCell ⟨w.heap.size + 2, 0, none⟩ (.bool false)).setCell ⟨w.heap.size + 2, 1, none⟩ ((.slice none 0 0))).setCell ⟨w.heap.size + 2 + 1, 0, none⟩ (.bool false)).setCell ⟨w.heap.size + 2 + 1, 1, none⟩ ((.slice none 0 0)) = w5 at *
          obtain ⟨q0, q1⟩ := duo R5
          obtain ⟨q2, q3⟩ := duo R6
          refine bodyPost_ret (v := .tuple #[.agg #[.bool false, (.slice none 0 0)], .agg #[.bool false, (.slice none 0 0)], .int .i64 3]) (by simp [results, Tryz.results66, go_sem, q0, q1, q2, q3]) rfl ?_
          refine ⟨⟨_, _, _, _, _, _, _, _, 3, rfl, [], [], Ans.nil _ _, Ans.nil _ _, .inl rfl, .inr ⟨rfl, rfl, rfl, rfl, rfl, rfl, rfl, ?_⟩⟩, HD.out.2⟩
          rw [HQZ.out, HRZ.out, zz_abs, zz_abs, ← HQ.out.2.1, ← HR.out.2.1]
          exact HBIG.out
        · rw [decide_eq_false hbig] at hAB
          have HBIG := hide hbig
          clear hbig
          go_wp2_with fail
          refine hAB.mono ?_
          rintro e wn ⟨rfl, hw⟩; rw [hw]; clear hw wn hAB
          have hS1 := wsigned_any ap (.slice aq lq kq) rq _ wv HQv.out
          rw [zz_sign ap HQ.out.2.2 HQ.out.2.1, ← HQZ.out] at hS1
          go_wp2_with fail
          refine hS1.mono ?_
          rintro e ws ⟨rfl, hbs⟩
          have hS2 := wsigned_any b1 (.slice ar lr kr) rr _ ws (HRv.out.below hbs)
          rw [zz_sign b1 HR.out.2.2 HR.out.2.1, ← HRZ.out] at hS2
          have HBS := hide hbs
          clear hbs hS1
          go_wp2_with fail
          refine hS2.mono ?_
          rintro e wt ⟨rfl, hbt⟩
          have hbst := HBS.out.trans (hbt.mono HBS.out.size)
          have HR2 := hide (block_upW hbst HR2v.out)
          have HR3 := hide (block_upW hbst HR3v.out)
          have HBE := hide (HBV.out.trans (hbst.mono HBV.out.size))
          have HQt := hide (HQv.out.below hbst)
          have HRt := hide (HRv.out.below hbst)
          have hf2 := duof HR2.out
          have hf3 := duof HR3.out
          obtain ⟨m0, m1⟩ := duo HR2.out
          obtain ⟨m2, m3⟩ := duo HR3.out
          clear hbt hbst hS2 HR2v HR3v hwv
          obtain ⟨uq, huq⟩ : ∃ ub, decide (qz < 0) = ub := ⟨_, rfl⟩
          obtain ⟨ur, hur⟩ : ∃ ub, decide (rz < 0) = ub := ⟨_, rfl⟩
          rw [huq, hur]
          go_wp2
          have hq4 := quad (base := w.heap.size) (u0 := .bool uq) (u1 := (.slice aq lq kq)) (u2 := .bool ur) (u3 := (.slice ar lr kr)) HR2.out HR3.out
          have HD := hide (And.intro hq4.2.2 (quad_below HBE.out (g := w.heap.size + 2) (u0 := .bool uq) (u1 := (.slice aq lq kq)) (u2 := .bool ur) (u3 := (.slice ar lr kr)) (by omega)))
          obtain ⟨R5, R6, _⟩ := hq4
          generalize (((wt.setCell ⟨w.heap.size + 2, 0, none⟩ (.bool uq)).setCell ⟨w.heap.size + 2, 1, none⟩ ((.slice aq lq kq))).setCell ⟨w.heap.size + 2 + 1, 0, none⟩ (.bool ur)).setCell ⟨w.heap.size + 2 + 1, 1, none⟩ ((.slice ar lr kr)) = w5 at *
          obtain ⟨q0, q1⟩ := duo R5
          obtain ⟨q2, q3⟩ := duo R6
          refine bodyPost_ret (v := .tuple #[.agg #[.bool uq, (.slice aq lq kq)], .agg #[.bool ur, (.slice ar lr kr)], .int .i64 0]) (by simp [results, Tryz.results66, go_sem, q0, q1, q2, q3]) rfl ?_
          refine ⟨⟨_, _, _, _, _, _, _, _, 0, rfl, rq, rr, HD.out.1 _ _ HQt.out, HD.out.1 _ _ HRt.out, HAP.out, .inl ⟨rfl, huq.symm, ?_, HQ.out.2.2, hur.symm, ?_, HR.out.2.2, ?_, ?_⟩⟩, HD.out.2⟩
          · rw [HQZ.out, zz_abs]; exact HQ.out.2.1
          · rw [HRZ.out, zz_abs]; exact HR.out.2.1
          · rw [HQZ.out, zz_abs, ← HQ.out.2.1]; have := HBIG.out; omega
          · rw [HRZ.out, zz_abs, ← HR.out.2.1]; have := HBIG.out; omega
      · obtain ⟨w6, hw6, hb6, hx6⟩ := enter1 w5 (.cells #[.int .u64 1] 64)
        have hblk : Blk w6 w5.heap.size [1] := hx6
        have A6 := Ans.of_blk (base := w5.heap.size) (zs := [1]) (Nat.le_refl _) hblk (by simp) (by simp) (by simp) (by intro z hz; simp at hz; omega)
        have hSM := wsum_any (.slice aq lq kq) (.slice (some ⟨w5.heap.size, 0, none⟩) 1 1) rq [1] w6 ((HQ5.out.1.arg HLQ.out.1).below hb6) (A6.arg (by simp)) (by have := HLN.out.1; omega) (by simp)
        rw [HQ5.out.2.1, show val [1] = 1 from by simp [val]] at hSM
        have HB6 := hide hb6
        clear hb6 hx6 hblk A6
        go_wp2_with fail
        refine hSM.mono ?_
        rintro e w7 ⟨⟨v7, r7, rfl, A7, e7, t7⟩, hb7⟩
        obtain ⟨a7, k7, rfl⟩ := A7.shape
        have hb67 := HB6.out.trans (hb7.mono HB6.out.size)
        have HR2' := hide (block_upW hb67 HR2.out)
        have HR3' := hide (block_upW hb67 HR3.out)
        have HWB := hide (HWB5.out.trans (hb67.mono HWB5.out.size))
        have hl7 : r7.length ≤ rq.length + 1 := by
          rw [← t7]; refine tr_len_lt r7 _ ?_
          rw [e7]
          have h1 := val_lt HQ5.out.1.limbs
          rw [HQ5.out.2.1] at h1
          rw [Nat.pow_succ]
          have h0 := W_pos rq.length
          generalize 18446744073709551616 ^ rq.length = P9 at *
          omega
        have hlqx := HLN.out.1
        obtain ⟨l7, hl7e⟩ : ∃ l7, r7.length = l7 := ⟨_, rfl⟩
        rw [hl7e] at A7 ⊢
        have hAP7 := apart_of2 (v2 := .slice a3 l3 k3) (fun g hg => Nat.lt_of_lt_of_le (HL5.out.1.own.lt g hg).2 HB6.out.size) A7
        have hs57 : w.heap.size ≤ w6.heap.size := Nat.le_trans HWB5.out.size HB6.out.size
        have HQ := hide (And.intro (A7.base hs57) (And.intro e7 t7))
        have HR := hide (And.intro (HL5.out.1.below hb67) HL5.out.2)
        have hq9 := HQZ.out
        have hr9 := HRZ.out
        rw [decide_eq_true hr0] at hq9 hr9
        simp only [Bool.true_and, if_true] at hq9 hr9
        clear HQ5 HR5 HAP HLQ HR2 HR3 HWB5 HQZ HRZ
        have HAP := hide hAP7
        have HLQ := hide (And.intro (show r7.length ≤ 1125899906842624 by omega) HLN3.out)
        have HR2 := HR2'
        have HR3 := HR3'
        have HQZ := hide hq9
        have HRZ := hide hr9
        clear hq9 hr9 HL5 hb7 hb67 A7 e7 t7 hSM HB6 hs57 HR2' HR3' hw6
        obtain ⟨wv, hwv, hbv, hxv⟩ := enter1 w7 (.cells #[.slice a7 l7 k7, .slice a3 l3 k3] 25)
        have hAB := wanyBig_two w7.heap.size (.slice a7 l7 k7) (.slice a3 l3 k3) r7 r3 wv hxv ((HQ.out.1.arg HLQ.out.1).below hbv) ((HR.out.1.arg HLQ.out.2).below hbv)
        have HR2v := hide (block_upW hbv HR2.out)
        have HR3v := hide (block_upW hbv HR3.out)
        have HBV := hide (HWB.out.trans (hbv.mono HWB.out.size))
        have HQv := hide (HQ.out.1.below hbv)
        have HRv := hide (HR.out.1.below hbv)
        clear hbv hxv HR2 HR3
        by_cases hbig : 67108864 < blen (val r7) ∨ 67108864 < blen (val r3)
        · rw [decide_eq_true hbig] at hAB
          have HBIG := hide hbig
          clear hbig
          go_wp2_with fail
          refine hAB.mono ?_
          rintro e wn ⟨rfl, hw⟩; rw [hw]; clear hw wn hAB
          have HR2 := HR2v
          have HR3 := HR3v
          have HBE := HBV
          have hf2 := duof HR2.out
          have hf3 := duof HR3.out
          obtain ⟨m0, m1⟩ := duo HR2.out
          obtain ⟨m2, m3⟩ := duo HR3.out
          go_wp2
          have hq4 := quad (base := w.heap.size) (u0 := .bool false) (u1 := (.slice none 0 0)) (u2 := .bool false) (u3 := (.slice none 0 0)) HR2.out HR3.out
          have HD := hide (And.intro hq4.2.2 (quad_below HBE.out (g := w.heap.size + 2) (u0 := .bool false) (u1 := (.slice none 0 0)) (u2 := .bool false) (u3 := (.slice none 0 0)) (by omega)))
          obtain ⟨R5, R6, _⟩ := hq4
          generalize (((wv.setCell ⟨w.heap.size + 2, 0, none⟩ (.bool false)).setCell ⟨w.heap.size + 2, 1, none⟩ ((.slice none 0 0))).setCell ⟨w.heap.size + 2 + 1, 0, none⟩ (.bool false)).setCell ⟨w.heap.size + 2 + 1, 1, none⟩ ((.slice none 0 0)) = w5 at *
          obtain ⟨q0, q1⟩ := duo R5
          obtain ⟨q2, q3⟩ := duo R6
          refine bodyPost_ret (v := .tuple #[.agg #[.bool false, (.slice none 0 0)], .agg #[.bool false, (.slice none 0 0)], .int .i64 3]) (by simp [results, Tryz.results66, go_sem, q0, q1, q2, q3]) rfl ?_
          refine ⟨⟨_, _, _, _, _, _, _, _, 3, rfl, [], [], Ans.nil _ _, Ans.nil _ _, .inl rfl, .inr ⟨rfl, rfl, rfl, rfl, rfl, rfl, rfl, ?_⟩⟩, HD.out.2⟩
          rw [HQZ.out, HRZ.out, zz_abs, zz_abs, ← HQ.out.2.1, ← HR.out.2.1]
          exact HBIG.out
        · rw [decide_eq_false hbig] at hAB
          have HBIG := hide hbig
          clear hbig
          go_wp2_with fail
          refine hAB.mono ?_
          rintro e wn ⟨rfl, hw⟩; rw [hw]; clear hw wn hAB
          have hS1 := wsigned_any ap (.slice a7 l7 k7) r7 _ wv HQv.out
          rw [zz_sign ap HQ.out.2.2 HQ.out.2.1, ← HQZ.out] at hS1
          go_wp2_with fail
          refine hS1.mono ?_
          rintro e ws ⟨rfl, hbs⟩
          have hS2 := wsigned_any (!b1) (.slice a3 l3 k3) r3 _ ws (HRv.out.below hbs)
          rw [zz_sign (!b1) HR.out.2.2 HR.out.2.1, ← HRZ.out] at hS2
          have HBS := hide hbs
          clear hbs hS1
          go_wp2_with fail
          refine hS2.mono ?_
          rintro e wt ⟨rfl, hbt⟩
          have hbst := HBS.out.trans (hbt.mono HBS.out.size)
          have HR2 := hide (block_upW hbst HR2v.out)
          have HR3 := hide (block_upW hbst HR3v.out)
          have HBE := hide (HBV.out.trans (hbst.mono HBV.out.size))
          have HQt := hide (HQv.out.below hbst)
          have HRt := hide (HRv.out.below hbst)
          have hf2 := duof HR2.out
          have hf3 := duof HR3.out
          obtain ⟨m0, m1⟩ := duo HR2.out
          obtain ⟨m2, m3⟩ := duo HR3.out
          clear hbt hbst hS2 HR2v HR3v hwv
          obtain ⟨uq, huq⟩ : ∃ ub, decide (qz < 0) = ub := ⟨_, rfl⟩
          obtain ⟨ur, hur⟩ : ∃ ub, decide (rz < 0) = ub := ⟨_, rfl⟩
          rw [huq, hur]
          go_wp2
          have hq4 := quad (base := w.heap.size) (u0 := .bool uq) (u1 := (.slice a7 l7 k7)) (u2 := .bool ur) (u3 := (.slice a3 l3 k3)) HR2.out HR3.out
          have HD := hide (And.intro hq4.2.2 (quad_below HBE.out (g := w.heap.size + 2) (u0 := .bool uq) (u1 := (.slice a7 l7 k7)) (u2 := .bool ur) (u3 := (.slice a3 l3 k3)) (by omega)))
          obtain ⟨R5, R6, _⟩ := hq4
          generalize (((wt.setCell ⟨w.heap.size + 2, 0, none⟩ (.bool uq)).setCell ⟨w.heap.size + 2, 1, none⟩ ((.slice a7 l7 k7))).setCell ⟨w.heap.size + 2 + 1, 0, none⟩ (.bool ur)).setCell ⟨w.heap.size + 2 + 1, 1, none⟩ ((.slice a3 l3 k3)) = w5 at *
          obtain ⟨q0, q1⟩ := duo R5
          obtain ⟨q2, q3⟩ := duo R6
          refine bodyPost_ret (v := .tuple #[.agg #[.bool uq, (.slice a7 l7 k7)], .agg #[.bool ur, (.slice a3 l3 k3)], .int .i64 0]) (by simp [results, Tryz.results66, go_sem, q0, q1, q2, q3]) rfl ?_
          refine ⟨⟨_, _, _, _, _, _, _, _, 0, rfl, r7, r3, HD.out.1 _ _ HQt.out, HD.out.1 _ _ HRt.out, HAP.out, .inl ⟨rfl, huq.symm, ?_, HQ.out.2.2, hur.symm, ?_, HR.out.2.2, ?_, ?_⟩⟩, HD.out.2⟩
          · rw [HQZ.out, zz_abs]; exact HQ.out.2.1
          · rw [HRZ.out, zz_abs]; exact HR.out.2.1
          · rw [HQZ.out, zz_abs, ← HQ.out.2.1]; have := HBIG.out; omega
          · rw [HRZ.out, zz_abs, ← HR.out.2.1]; have := HBIG.out; omega
    · have i3 : ¬ (0 : Int) < (lr : Int) := by omega
      have hr0 : val X % val Y = 0 := by omega
      have HQ := HQA2
      have HR := HRA2
      have hfz : (fu && decide (0 < val X % val Y)) = false := by rw [hr0]; simp
      have hq9 := HQZ.out
      have hr9 := HRZ.out
      rw [hfz] at hq9 hr9
      simp only [Bool.false_eq_true, if_false, Nat.add_zero] at hq9 hr9
      clear HQZ HRZ
      have HQZ := hide hq9
      have HRZ := hide hr9
      clear hq9 hr9 hfz HQA2 HRA2 hnz f2 f3 HK12 HB12
      obtain ⟨wv, hwv, hbv, hxv⟩ := enter1 wq (.cells #[.slice aq lq kq, .slice ar lr kr] 25)
      have hAB := wanyBig_two wq.heap.size (.slice aq lq kq) (.slice ar lr kr) rq rr wv hxv ((HQ.out.1.arg HLQ.out.1).below hbv) ((HR.out.1.arg HLQ.out.2).below hbv)
      have HR2v := hide (block_upW hbv HR2.out)
      have HR3v := hide (block_upW hbv HR3.out)
      have HBV := hide (HWB.out.trans (hbv.mono HWB.out.size))
      have HQv := hide (HQ.out.1.below hbv)
      have HRv := hide (HR.out.1.below hbv)
      clear hbv hxv HR2 HR3
      by_cases hbig : 67108864 < blen (val rq) ∨ 67108864 < blen (val rr)
      · rw [decide_eq_true hbig] at hAB
        have HBIG := hide hbig
        clear hbig
        go_wp2_with fail
        refine hAB.mono ?_
        rintro e wn ⟨rfl, hw⟩; rw [hw]; clear hw wn hAB
        have HR2 := HR2v
        have HR3 := HR3v
        have HBE := HBV
        have hf2 := duof HR2.out
        have hf3 := duof HR3.out
        obtain ⟨m0, m1⟩ := duo HR2.out
        obtain ⟨m2, m3⟩ := duo HR3.out
        go_wp2
        have hq4 := quad (base := w.heap.size) (u0 := .bool false) (u1 := (.slice none 0 0)) (u2 := .bool false) (u3 := (.slice none 0 0)) HR2.out HR3.out
        have HD := hide (And.intro hq4.2.2 (quad_below HBE.out (g := w.heap.size + 2) (u0 := .bool false) (u1 := (.slice none 0 0)) (u2 := .bool false) (u3 := (.slice none 0 0)) (by omega)))
        obtain ⟨R5, R6, _⟩ := hq4
        generalize (((wv.setCell ⟨w.heap.size + 2, 0, none⟩ (.bool false)).setCell ⟨w.heap.size + 2, 1, none⟩ ((.slice none 0 0))).setCell ⟨w.heap.size + 2 + 1, 0, none⟩ (.bool false)).setCell ⟨w.heap.size + 2 + 1, 1, none⟩ ((.slice none 0 0)) = w5 at *
        obtain ⟨q0, q1⟩ := duo R5
        obtain ⟨q2, q3⟩ := duo R6
        refine bodyPost_ret (v := .tuple #[.agg #[.bool false, (.slice none 0 0)], .agg #[.bool false, (.slice none 0 0)], .int .i64 3]) (by simp [results, Tryz.results66, go_sem, q0, q1, q2, q3]) rfl ?_
        refine ⟨⟨_, _, _, _, _, _, _, _, 3, rfl, [], [], Ans.nil _ _, Ans.nil _ _, .inl rfl, .inr ⟨rfl, rfl, rfl, rfl, rfl, rfl, rfl, ?_⟩⟩, HD.out.2⟩
        rw [HQZ.out, HRZ.out, zz_abs, zz_abs, ← HQ.out.2.1, ← HR.out.2.1]
        exact HBIG.out
      · rw [decide_eq_false hbig] at hAB
        have HBIG := hide hbig
        clear hbig
        go_wp2_with fail
        refine hAB.mono ?_
        rintro e wn ⟨rfl, hw⟩; rw [hw]; clear hw wn hAB
        have hS1 := wsigned_any ap (.slice aq lq kq) rq _ wv HQv.out
        rw [zz_sign ap HQ.out.2.2 HQ.out.2.1, ← HQZ.out] at hS1
        go_wp2_with fail
        refine hS1.mono ?_
        rintro e ws ⟨rfl, hbs⟩
        have hS2 := wsigned_any b1 (.slice ar lr kr) rr _ ws (HRv.out.below hbs)
        rw [zz_sign b1 HR.out.2.2 HR.out.2.1, ← HRZ.out] at hS2
        have HBS := hide hbs
        clear hbs hS1
        go_wp2_with fail
        refine hS2.mono ?_
        rintro e wt ⟨rfl, hbt⟩
        have hbst := HBS.out.trans (hbt.mono HBS.out.size)
        have HR2 := hide (block_upW hbst HR2v.out)
        have HR3 := hide (block_upW hbst HR3v.out)
        have HBE := hide (HBV.out.trans (hbst.mono HBV.out.size))
        have HQt := hide (HQv.out.below hbst)
        have HRt := hide (HRv.out.below hbst)
        have hf2 := duof HR2.out
        have hf3 := duof HR3.out
        obtain ⟨m0, m1⟩ := duo HR2.out
        obtain ⟨m2, m3⟩ := duo HR3.out
        clear hbt hbst hS2 HR2v HR3v hwv
        obtain ⟨uq, huq⟩ : ∃ ub, decide (qz < 0) = ub := ⟨_, rfl⟩
        obtain ⟨ur, hur⟩ : ∃ ub, decide (rz < 0) = ub := ⟨_, rfl⟩
        rw [huq, hur]
        go_wp2
        have hq4 := quad (base := w.heap.size) (u0 := .bool uq) (u1 := (.slice aq lq kq)) (u2 := .bool ur) (u3 := (.slice ar lr kr)) HR2.out HR3.out
        have HD := hide (And.intro hq4.2.2 (quad_below HBE.out (g := w.heap.size + 2) (u0 := .bool uq) (u1 := (.slice aq lq kq)) (u2 := .bool ur) (u3 := (.slice ar lr kr)) (by omega)))
        obtain ⟨R5, R6, _⟩ := hq4
        generalize (((wt.setCell ⟨w.heap.size + 2, 0, none⟩ (.bool uq)).setCell ⟨w.heap.size + 2, 1, none⟩ ((.slice aq lq kq))).setCell ⟨w.heap.size + 2 + 1, 0, none⟩ (.bool ur)).setCell ⟨w.heap.size + 2 + 1, 1, none⟩ ((.slice ar lr kr)) = w5 at *
        obtain ⟨q0, q1⟩ := duo R5
        obtain ⟨q2, q3⟩ := duo R6
        refine bodyPost_ret (v := .tuple #[.agg #[.bool uq, (.slice aq lq kq)], .agg #[.bool ur, (.slice ar lr kr)], .int .i64 0]) (by simp [results, Tryz.results66, go_sem, q0, q1, q2, q3]) rfl ?_
        refine ⟨⟨_, _, _, _, _, _, _, _, 0, rfl, rq, rr, HD.out.1 _ _ HQt.out, HD.out.1 _ _ HRt.out, HAP.out, .inl ⟨rfl, huq.symm, ?_, HQ.out.2.2, hur.symm, ?_, HR.out.2.2, ?_, ?_⟩⟩, HD.out.2⟩
        · rw [HQZ.out, zz_abs]; exact HQ.out.2.1
        · rw [HRZ.out, zz_abs]; exact HR.out.2.1
        · rw [HQZ.out, zz_abs, ← HQ.out.2.1]; have := HBIG.out; omega
        · rw [HRZ.out, zz_abs, ← HR.out.2.1]; have := HBIG.out; omega

end Go.Proofs.YtfgcngndiblpmaaGreatDoor

/- Package whole: divide, to the nearest. -/
namespace Go.Proofs.YtfgcngndiblpmaaGreatDoor
open Go.RowKit
open Lm
attribute [local go_sem ↓] Go.wp_at_zero Go.wp_at_succ

theorem nbit0 (x : Nat) : bitI x 0 = x % 2 := by simp [bitI]

/-- Is the quotient to be further from 0: to the nearest. -/
def nearB (q r l : Nat) : Bool := decide (l < r) || (decide (r = l) && decide (q % 2 = 1))

set_option maxHeartbeats 1000000 in
theorem fur4 (vq vr vl : Value) (Q R L : List Nat) (bl ap : Bool) (w : World) (hq : Arg w vq Q) (hr : Arg w vr R) (hl : Arg w vl L) :
    Calls Tryz.prog 124 #[cutV vq vr vl bl ap] w fun e w' => e = .returned (.bool (nearB (val Q) (val R) (val L))) ∧ Below w.heap.size w w' := by
  obtain ⟨a1, k1, rfl, _, _, _⟩ := hq.form
  obtain ⟨a2, k2, rfl, _, _, _⟩ := hr.form
  obtain ⟨a3, k3, rfl, _, _, _⟩ := hl.form
  obtain ⟨w0, hw0, hb0, hx0⟩ := enter1 w (.cells #[.slice a1 Q.length k1, .slice a2 R.length k2, .slice a3 L.length k3, .bool bl, .bool ap] 114)
  have c0 : w0.cell? ⟨w.heap.size, 0, none⟩ = some (.slice a1 Q.length k1) := by simp [World.cell?, hx0]
  have c1 : w0.cell? ⟨w.heap.size, 1, none⟩ = some (.slice a2 R.length k2) := by simp [World.cell?, hx0]
  have c2 : w0.cell? ⟨w.heap.size, 2, none⟩ = some (.slice a3 L.length k3) := by simp [World.cell?, hx0]
  have HC := compare_any _ _ R L w0 (hr.below hb0) (hl.below hb0)
  have HB0 := hide hb0
  have HX0 := hide hx0
  have HQ := hide (hq.below hb0)
  unfold nearB cutV
  clear hq hr hl hb0 hx0
  by_cases h1 : val L < val R
  · rw [show cmpN (val R) (val L) = 1 by unfold cmpN; rw [if_neg (by omega), if_pos h1]] at HC
    rw [decide_eq_true h1, Bool.true_or]
    go_enter Tryz.func124, Tryz.ntmps124
    go_wp2_with fail
    refine HC.mono ?_
    rintro e w1 ⟨rfl, hs⟩
    have HB1 := hide (HB0.out.trans ((hs.below _ : Below w0.heap.size w0 w1).mono HB0.out.size))
    clear hs HC
    go_wp2
    go_ret
    exact ⟨rfl, HB1.out⟩
  · rw [decide_eq_false h1, Bool.false_or]
    by_cases h2 : val R = val L
    · rw [show cmpN (val R) (val L) = 0 by unfold cmpN; rw [if_neg (by omega), if_neg h1]] at HC
      rw [decide_eq_true h2, Bool.true_and]
      obtain ⟨bt, hbt, hbt2⟩ : ∃ bt : Nat, val Q % 2 = bt ∧ bt < 2 := ⟨_, rfl, by omega⟩
      rw [hbt]
      have hd : decide (bt = 1) = ((bt : Int) == 1) := by
        rcases (show bt = 0 ∨ bt = 1 by omega) with h | h <;> subst h <;> rfl
      rw [hd]
      clear hd
      go_enter Tryz.func124, Tryz.ntmps124
      go_wp2_with fail
      refine HC.mono ?_
      rintro e w1 ⟨rfl, hs⟩
      have hb1 : Below w0.heap.size w0 w1 := hs.below _
      have d0 : w1.cell? ⟨w.heap.size, 0, none⟩ = some (.slice a1 Q.length k1) := by simp [World.cell?, block_upW hb1 HX0.out]
      have HBT := nbit_any _ Q 0 w1 (HQ.out.below hb1) (by omega) (by omega)
      rw [nbit0, hbt] at HBT
      have HB1 := hide (HB0.out.trans (hb1.mono HB0.out.size))
      clear hs HC hb1 c0 c1 c2
      go_wp2_with fail
      refine HBT.mono ?_
      rintro e wn ⟨rfl, hw⟩; rw [hw]; clear hw wn HBT
      go_wp2
      go_ret
      exact ⟨rfl, HB1.out⟩
    · rw [show cmpN (val R) (val L) = -1 from cmpN_lt (by omega)] at HC
      rw [decide_eq_false h2, Bool.false_and]
      go_enter Tryz.func124, Tryz.ntmps124
      go_wp2_with fail
      refine HC.mono ?_
      rintro e w1 ⟨rfl, hs⟩
      have HB1 := hide (HB0.out.trans ((hs.below _ : Below w0.heap.size w0 w1).mono HB0.out.size))
      clear hs HC
      go_wp2
      go_ret
      exact ⟨rfl, HB1.out⟩

set_option maxRecDepth 20000 in
set_option maxHeartbeats 4000000 in
attribute [local go_sem] pick4 fld4 in
theorem wdivide_4 (b1 : Bool) (v : Value) (X : List Nat) (b2 : Bool) (u : Value) (Y : List Nat) (ap fu : Bool) (qz rz : Int) (w : World) (hA : Arg w v X) (hB : Arg w u Y) (hT : Tab w) (hx : X.length ≤ 17592186043904) (hy : Y.length ≤ 17592186043904) (hy0 : 0 < val Y)
    (hap : (b1 != b2) = ap) (hfu : nearB (val X / val Y) (val X % val Y) (val Y - val X % val Y) = fu)
    (hqz : qz = zz ap (val X / val Y + if fu && decide (0 < val X % val Y) then 1 else 0)) (hrz : rz = zz (if fu && decide (0 < val X % val Y) then !b1 else b1) (if fu && decide (0 < val X % val Y) then val Y - val X % val Y else val X % val Y)) :
    Calls Tryz.prog 66 #[.int .i64 3, .agg #[.bool b1, v], .agg #[.bool b2, u]] w (WDivDone w qz rz) := by
  have hap2 : (!(b1 == b2)) = ap := hap
  have HFU := hide hfu
  clear hfu
  obtain ⟨a, n, rfl, hn1, hn2, _⟩ := hA.form
  obtain ⟨a9, n9, rfl, hn3, hn4, _⟩ := hB.form
  obtain ⟨w0, hw0, hb0, h0, h1, h2, h3⟩ := enter4 w (.cells #[.bool b1, .slice a X.length n] 27) (.cells #[.bool b2, .slice a9 Y.length n9] 27) (.cells #[.bool false, .slice none 0 0] 27) (.cells #[.bool false, .slice none 0 0] 27)
  obtain ⟨k0, k1⟩ := duo h0
  obtain ⟨k2, k3⟩ := duo h1
  have hbx : blen (val X) ≤ 64 * X.length := blen_val_le X hA.limbs
  have hby : blen (val Y) ≤ 64 * Y.length := blen_val_le Y hB.limbs
  have HZ := wisZero_any _ Y w0 (hB.below hb0)
  rw [decide_eq_false (by omega)] at HZ
  obtain ⟨wd, hwd⟩ : ∃ wd, w0.drew = wd := ⟨_, rfl⟩
  have hbd : Below w0.heap.size w0 wd := by rw [← hwd]; exact (Below.refl _ _).drew
  have hbwd := hb0.trans (hbd.mono hb0.size)
  have L1 := length_val _ X wd (hA.below hbwd)
  have L2 := length_val _ Y wd (hB.below hbwd)
  have g0 := block_upW hbd h0
  have g1 := block_upW hbd h1
  obtain ⟨d0, d1⟩ := duo g0
  obtain ⟨d2, d3⟩ := duo g1
  have HG0 := hide g0
  have HG1 := hide g1
  have HG2 := hide (block_upW hbd h2)
  have HG3 := hide (block_upW hbd h3)
  have HWD := hide hbwd
  obtain ⟨dd, hdd⟩ : ∃ dd : Int, ((blen (val X) : Nat) : Int) - ((blen (val Y) : Nat) : Int) = dd := ⟨_, rfl⟩
  have wdd : IntKind.i64.wrap dd = dd := by rw [IntKind.wrap_i64]; omega
  have wdd2 : IntKind.i64.wrap (((blen (val X) : Nat) : Int) - ((blen (val Y) : Nat) : Int)) = dd := by rw [IntKind.wrap_i64]; omega
  have HQZ := hide hqz
  have HRZ := hide hrz
  have HA := hide (hA.below hbwd)
  have HB := hide (hB.below hbwd)
  have HT := hide (hT.below hbwd)
  by_cases hbig : 67108864 + blen (val Y) < blen (val X)
  · have i1 : (67108864 : Int) < dd := by omega
    have HBQ : Hid (67108864 < blen qz.natAbs) := by
      refine hide ?_
      rw [hqz, zz_abs]
      refine Nat.lt_of_lt_of_le ?_ (blen_mono (Nat.le_add_right _ _))
      exact blen_quo_ge (by omega) hbig
    generalize blen (val X) = lx at *
    generalize blen (val Y) = ly at *
    clear hA hB hT hb0 h0 h1 h2 h3 hbd hbwd g0 g1 HQZ HRZ hqz hrz hbig
    go_enter Tryz.func66, Tryz.ntmps66
    go_wp2_with fail
    refine HZ.mono ?_
    rintro e wn ⟨rfl, hw⟩; rw [hw]; clear hw wn HZ
    go_wp2
    go_region_held3 (fun w' => w'.cell? ⟨w.heap.size, 1, none⟩ = some (.slice a X.length n) ∧ w'.cell? ⟨w.heap.size + 1, 1, none⟩ = some (.slice a9 Y.length n9)) (go_keep) (first
      | (go_at_call_of 93 a; (try rw [hwd]); refine L1.mono ?_; rintro e' wn ⟨rfl, hw⟩; rw [hw]; clear hw wn)
      | (go_at_call_of 93 a9; (try rw [hwd]); refine L2.mono ?_; rintro e' wn ⟨rfl, hw⟩; rw [hw]; clear hw wn))

    have HR2 := HG2
    have HR3 := HG3
    have HBE := HWD
    have hf2 := duof HR2.out
    have hf3 := duof HR3.out
    obtain ⟨m0, m1⟩ := duo HR2.out
    obtain ⟨m2, m3⟩ := duo HR3.out
    go_wp2
    have hq4 := quad (base := w.heap.size) (u0 := .bool false) (u1 := (.slice none 0 0)) (u2 := .bool false) (u3 := (.slice none 0 0)) HR2.out HR3.out
    have HD := hide (And.intro hq4.2.2 (quad_below HBE.out (g := w.heap.size + 2) (u0 := .bool false) (u1 := (.slice none 0 0)) (u2 := .bool false) (u3 := (.slice none 0 0)) (by omega)))
    obtain ⟨R5, R6, _⟩ := hq4
    generalize (((wd.setCell ⟨w.heap.size + 2, 0, none⟩ (.bool false)).setCell ⟨w.heap.size + 2, 1, none⟩ ((.slice none 0 0))).setCell ⟨w.heap.size + 2 + 1, 0, none⟩ (.bool false)).setCell ⟨w.heap.size + 2 + 1, 1, none⟩ ((.slice none 0 0)) = w5 at *
    obtain ⟨q0, q1⟩ := duo R5
    obtain ⟨q2, q3⟩ := duo R6
    refine bodyPost_ret (v := .tuple #[.agg #[.bool false, (.slice none 0 0)], .agg #[.bool false, (.slice none 0 0)], .int .i64 3]) (by simp [results, Tryz.results66, go_sem, q0, q1, q2, q3]) rfl ?_
    exact ⟨⟨_, _, _, _, _, _, _, _, 3, rfl, [], [], Ans.nil _ _, Ans.nil _ _, .inl rfl, .inr ⟨rfl, rfl, rfl, rfl, rfl, rfl, rfl, .inl HBQ.out⟩⟩, HD.out.2⟩
  · have i1 : ¬ (67108864 : Int) < dd := by omega
    have HBO := wboth_any (blen (val X)) X Y _ _ wd (by omega) HA.out HB.out HT.out (by omega) (by omega) hy0
    generalize blen (val X) = lx at *
    generalize blen (val Y) = ly at *
    clear hA hB hT hb0 h0 h1 h2 h3 hbd hbwd g0 g1 hqz hrz hbig
    go_enter Tryz.func66, Tryz.ntmps66
    go_wp2_with fail
    refine HZ.mono ?_
    rintro e wn ⟨rfl, hw⟩; rw [hw]; clear hw wn HZ
    go_wp2
    go_region_held3 (fun w' => w'.cell? ⟨w.heap.size, 1, none⟩ = some (.slice a X.length n) ∧ w'.cell? ⟨w.heap.size + 1, 1, none⟩ = some (.slice a9 Y.length n9)) (go_keep) (first
      | (go_at_call_of 93 a; (try rw [hwd]); refine L1.mono ?_; rintro e' wn ⟨rfl, hw⟩; rw [hw]; clear hw wn)
      | (go_at_call_of 93 a9; (try rw [hwd]); refine L2.mono ?_; rintro e' wn ⟨rfl, hw⟩; rw [hw]; clear hw wn))

    go_wp2_with fail
    refine HBO.mono ?_
    rintro e w1 ⟨⟨v1, v2, rq, rr, rfl, A1, A2, e1, t1, e2, t2, hapt⟩, hb1⟩
    obtain ⟨aq, kq, rfl⟩ := A1.shape
    obtain ⟨ar, kr, rfl⟩ := A2.shape
    have hlq : rq.length ≤ X.length := by
      rw [← t1]; refine tr_len_lt rq _ ?_
      rw [e1]; exact Nat.lt_of_le_of_lt (Nat.div_le_self _ _) (val_lt HA.out.limbs)
    have hlr : rr.length ≤ Y.length := by
      rw [← t2]; refine tr_len_lt rr _ ?_
      rw [e2]; exact Nat.lt_trans (Nat.mod_lt _ hy0) (val_lt HB.out.limbs)
    have hnz := norm_zero t2
    rw [e2] at hnz
    have HWB := hide (HWD.out.trans (hb1.mono HWD.out.size))
    have HK0 := hide (block_upW hb1 HG0.out)
    have HK1 := hide (block_upW hb1 HG1.out)
    have HR2 := hide (block_upW hb1 HG2.out)
    have HR3 := hide (block_upW hb1 HG3.out)
    have HB1 := hide (HB.out.below hb1)
    have HT1 := hide (HT.out.below hb1)
    have HQA := hide (And.intro (A1.base HWD.out.size) (And.intro e1 t1))
    have HRA := hide (And.intro (A2.base HWD.out.size) (And.intro e2 t2))
    have HAP := hide hapt
    have HLQ := hide (And.intro (show rq.length ≤ 1125899906842624 by omega) (show rr.length ≤ 1125899906842624 by omega))
    obtain ⟨f0, f1⟩ := duo HK0.out
    obtain ⟨f2, f3⟩ := duo HK1.out
    obtain ⟨lq, hnq⟩ : ∃ lq, rq.length = lq := ⟨_, rfl⟩
    obtain ⟨lr, hnr⟩ : ∃ lr, rr.length = lr := ⟨_, rfl⟩
    rw [hnq] at HQA HAP ⊢
    rw [hnr] at HRA HAP ⊢
    have HLN := hide (And.intro hlq (And.intro hlr (And.intro hnq hnr)))
    rw [hnr] at hnz
    clear A1 A2 e1 e2 t1 t2 hapt hb1 HBO k0 k1 k2 k3 d0 d1 d2 d3 hlq hlr hnq hnr HG0 HG1 HG2 HG3 HA HB HT L1 L2
    go_wp2
    go_quiet (fail)
    obtain ⟨wq, hwq⟩ : ∃ wq, wq = w1.drewN nq := ⟨_, rfl⟩
    have hbq : Below w1.heap.size w1 wq := by rw [hwq]; exact ((Same.refl w1).drewN nq).below _
    rw [← hwq]
    have HWB2 := hide (HWB.out.trans (hbq.mono HWB.out.size))
    have HK12 := hide (block_upW hbq HK1.out)
    have HR22 := hide (block_upW hbq HR2.out)
    have HR32 := hide (block_upW hbq HR3.out)
    have HB12 := hide (HB1.out.below hbq)
    have HQA2 := hide (And.intro (HQA.out.1.below hbq) HQA.out.2)
    have HRA2 := hide (And.intro (HRA.out.1.below hbq) HRA.out.2)
    clear HWB HK0 HK1 HR2 HR3 HB1 HQA HRA f0 f1 f2 f3 hwq hbq HT1
    have HWB := HWB2
    have HR2 := HR22
    have HR3 := HR32
    obtain ⟨f2, f3⟩ := duo HK12.out
    clear HWB2 HR22 HR32
    by_cases hr : 0 < lr
    · have i3 : (0 : Int) < (lr : Int) := by omega
      have hr0 : 0 < val X % val Y := by omega
      have hml := Nat.mod_lt (val X) hy0
      clear hnz
      have HLS := wless_any _ (.slice ar lr kr) Y rr wq HB12.out (HRA2.out.1.arg HLQ.out.2) (by omega) (by rw [HRA2.out.2.1]; omega)
      rw [HRA2.out.2.1] at HLS
      go_wp2_with fail
      refine HLS.mono ?_
      rintro e w3 ⟨⟨v3, r3, rfl, A3, e3, t3⟩, hb3⟩
      obtain ⟨a3, k3, rfl⟩ := A3.shape
      have hl3 : r3.length ≤ Y.length := by
        rw [← t3]; refine tr_len_lt r3 _ ?_
        rw [e3]; exact Nat.lt_of_le_of_lt (Nat.sub_le _ _) (val_lt HB12.out.limbs)
      obtain ⟨l3, hl3e⟩ : ∃ l3, r3.length = l3 := ⟨_, rfl⟩
      rw [hl3e] at A3 ⊢
      have hDV := wdivs_any w3
      have HB3 := hide hb3
      have HA3 := hide (And.intro A3 (And.intro e3 (And.intro t3 (show r3.length ≤ 1125899906842624 by omega))))
      clear A3 e3 t3 hb3 hl3 hl3e HLS f2 f3 HK12 HB12
      go_wp2_with fail
      refine hDV.mono ?_
      rintro e w4 ⟨rfl, hb4⟩
      have HB4 := hide (HB3.out.trans (hb4.mono HB3.out.size))
      have HA4 := hide (HA3.out.1.below hb4)
      have hFU : Calls Tryz.prog 124 #[cutV (.slice aq lq kq) (.slice ar lr kr) (.slice a3 l3 k3) b1 ap] w4 (fun e w' => e = .returned (.bool fu) ∧ Below w4.heap.size w4 w') := (fur4 _ _ _ rq rr r3 b1 ap w4 ((HQA2.out.1.arg HLQ.out.1).below HB4.out) ((HRA2.out.1.arg HLQ.out.2).below HB4.out) (HA4.out.arg HA3.out.2.2.2)).mono (fun e w' h => ⟨h.1.trans (by rw [HQA2.out.2.1, HRA2.out.2.1, HA3.out.2.1, HFU.out]), h.2⟩)
      clear hb4 hDV HB3
      go_wp2_with fail
      refine hFU.mono ?_
      rintro e w5 ⟨rfl, hb5⟩
      have hb45 := HB4.out.trans (hb5.mono HB4.out.size)
      have HR2' := hide (block_upW hb45 HR2.out)
      have HR3' := hide (block_upW hb45 HR3.out)
      have HQ5 := hide (And.intro (HQA2.out.1.below hb45) HQA2.out.2)
      have HR5 := hide (And.intro (HRA2.out.1.below hb45) HRA2.out.2)
      have HL5 := hide (And.intro ((HA4.out.below hb5).base (Nat.le_trans HWB.out.size (Nat.le_refl _))) (And.intro HA3.out.2.1 HA3.out.2.2.1))
      have HWB5 := hide (HWB.out.trans (hb45.mono HWB.out.size))
      have HLN3 := hide HA3.out.2.2.2
      clear hb5 hb45 hFU HA4 HB4 HA3 HR2 HR3 HWB HQA2 HRA2
      have HR2 := HR2'
      have HR3 := HR3'
      clear HR2' HR3'
      cases fu
      · have HQ := HQ5
        have HR := HR5
        have HWB := HWB5
        have hq9 := HQZ.out
        have hr9 := HRZ.out
        simp only [Bool.false_and, Bool.false_eq_true, if_false, Nat.add_zero] at hq9 hr9
        clear HQZ HRZ
        have HQZ := hide hq9
        have HRZ := hide hr9
        clear hq9 hr9 HQ5 HR5 HL5 HWB5
        obtain ⟨wv, hwv, hbv, hxv⟩ := enter1 w5 (.cells #[.slice aq lq kq, .slice ar lr kr] 25)
        have hAB := wanyBig_two w5.heap.size (.slice aq lq kq) (.slice ar lr kr) rq rr wv hxv ((HQ.out.1.arg HLQ.out.1).below hbv) ((HR.out.1.arg HLQ.out.2).below hbv)
        have HR2v := hide (block_upW hbv HR2.out)
        have HR3v := hide (block_upW hbv HR3.out)
        have HBV := hide (HWB.out.trans (hbv.mono HWB.out.size))
        have HQv := hide (HQ.out.1.below hbv)
        have HRv := hide (HR.out.1.below hbv)
        clear hbv hxv HR2 HR3
        by_cases hbig : 67108864 < blen (val rq) ∨ 67108864 < blen (val rr)
        · rw [decide_eq_true hbig] at hAB
          have HBIG := hide hbig
          clear hbig
          go_wp2_with fail
          refine hAB.mono ?_
          rintro e wn ⟨rfl, hw⟩; rw [hw]; clear hw wn hAB
          have HR2 := HR2v
          have HR3 := HR3v
          have HBE := HBV
          have hf2 := duof HR2.out
          have hf3 := duof HR3.out
          obtain ⟨m0, m1⟩ := duo HR2.out
          obtain ⟨m2, m3⟩ := duo HR3.out
          go_wp2
          have hq4 := quad (base := w.heap.size) (u0 := .bool false) (u1 := (.slice none 0 0)) (u2 := .bool false) (u3 := (.slice none 0 0)) HR2.out HR3.out
          have HD := hide (And.intro hq4.2.2 (quad_below HBE.out (g := w.heap.size + 2) (u0 := .bool false) (u1 := (.slice none 0 0)) (u2 := .bool false) (u3 := (.slice none 0 0)) (by omega)))
          obtain ⟨R5, R6, _⟩ := hq4
          generalize (((wv.setCell ⟨w.heap.size + 2, 0, none⟩ (.bool false)).setCell ⟨w.heap.size + 2, 1, none⟩ ((.slice none 0 0))).setCell ⟨w.heap.size + 2 + 1, 0, none⟩ (.bool false)).setCell ⟨w.heap.size + 2 + 1, 1, none⟩ ((.slice none 0 0)) = w5 at *
          obtain ⟨q0, q1⟩ := duo R5
          obtain ⟨q2, q3⟩ := duo R6
          refine bodyPost_ret (v := .tuple #[.agg #[.bool false, (.slice none 0 0)], .agg #[.bool false, (.slice none 0 0)], .int .i64 3]) (by simp [results, Tryz.results66, go_sem, q0, q1, q2, q3]) rfl ?_
          refine ⟨⟨_, _, _, _, _, _, _, _, 3, rfl, [], [], Ans.nil _ _, Ans.nil _ _, .inl rfl, .inr ⟨rfl, rfl, rfl, rfl, rfl, rfl, rfl, ?_⟩⟩, HD.out.2⟩
          rw [HQZ.out, HRZ.out, zz_abs, zz_abs, ← HQ.out.2.1, ← HR.out.2.1]
          exact HBIG.out
        · rw [decide_eq_false hbig] at hAB
          have HBIG := hide hbig
          clear hbig
          go_wp2_with fail
          refine hAB.mono ?_
          rintro e wn ⟨rfl, hw⟩; rw [hw]; clear hw wn hAB
          have hS1 := wsigned_any ap (.slice aq lq kq) rq _ wv HQv.out
          rw [zz_sign ap HQ.out.2.2 HQ.out.2.1, ← HQZ.out] at hS1
          go_wp2_with fail
          refine hS1.mono ?_
          rintro e ws ⟨rfl, hbs⟩
          have hS2 := wsigned_any b1 (.slice ar lr kr) rr _ ws (HRv.out.below hbs)
          rw [zz_sign b1 HR.out.2.2 HR.out.2.1, ← HRZ.out] at hS2
          have HBS := hide hbs
          clear hbs hS1
          go_wp2_with fail
          refine hS2.mono ?_
          rintro e wt ⟨rfl, hbt⟩
          have hbst := HBS.out.trans (hbt.mono HBS.out.size)
          have HR2 := hide (block_upW hbst HR2v.out)
          have HR3 := hide (block_upW hbst HR3v.out)
          have HBE := hide (HBV.out.trans (hbst.mono HBV.out.size))
          have HQt := hide (HQv.out.below hbst)
          have HRt := hide (HRv.out.below hbst)
          have hf2 := duof HR2.out
          have hf3 := duof HR3.out
          obtain ⟨m0, m1⟩ := duo HR2.out
          obtain ⟨m2, m3⟩ := duo HR3.out
          clear hbt hbst hS2 HR2v HR3v hwv
          obtain ⟨uq, huq⟩ : ∃ ub, decide (qz < 0) = ub := ⟨_, rfl⟩
          obtain ⟨ur, hur⟩ : ∃ ub, decide (rz < 0) = ub := ⟨_, rfl⟩
          rw [huq, hur]
          go_wp2
          have hq4 := quad (base := w.heap.size) (u0 := .bool uq) (u1 := (.slice aq lq kq)) (u2 := .bool ur) (u3 := (.slice ar lr kr)) HR2.out HR3.out
          have HD := hide (And.intro hq4.2.2 (quad_below HBE.out (g := w.heap.size + 2) (u0 := .bool uq) (u1 := (.slice aq lq kq)) (u2 := .bool ur) (u3 := (.slice ar lr kr)) (by omega)))
          obtain ⟨R5, R6, _⟩ := hq4
          generalize (((wt.setCell ⟨w.heap.size + 2, 0, none⟩ (.bool uq)).setCell ⟨w.heap.size + 2, 1, none⟩ ((.slice aq lq kq))).setCell ⟨w.heap.size + 2 + 1, 0, none⟩ (.bool ur)).setCell ⟨w.heap.size + 2 + 1, 1, none⟩ ((.slice ar lr kr)) = w5 at *
          obtain ⟨q0, q1⟩ := duo R5
          obtain ⟨q2, q3⟩ := duo R6
          refine bodyPost_ret (v := .tuple #[.agg #[.bool uq, (.slice aq lq kq)], .agg #[.bool ur, (.slice ar lr kr)], .int .i64 0]) (by simp [results, Tryz.results66, go_sem, q0, q1, q2, q3]) rfl ?_
          refine ⟨⟨_, _, _, _, _, _, _, _, 0, rfl, rq, rr, HD.out.1 _ _ HQt.out, HD.out.1 _ _ HRt.out, HAP.out, .inl ⟨rfl, huq.symm, ?_, HQ.out.2.2, hur.symm, ?_, HR.out.2.2, ?_, ?_⟩⟩, HD.out.2⟩
          · rw [HQZ.out, zz_abs]; exact HQ.out.2.1
          · rw [HRZ.out, zz_abs]; exact HR.out.2.1
          · rw [HQZ.out, zz_abs, ← HQ.out.2.1]; have := HBIG.out; omega
          · rw [HRZ.out, zz_abs, ← HR.out.2.1]; have := HBIG.out; omega
      · obtain ⟨w6, hw6, hb6, hx6⟩ := enter1 w5 (.cells #[.int .u64 1] 64)
        have hblk : Blk w6 w5.heap.size [1] := hx6
        have A6 := Ans.of_blk (base := w5.heap.size) (zs := [1]) (Nat.le_refl _) hblk (by simp) (by simp) (by simp) (by intro z hz; simp at hz; omega)
        have hSM := wsum_any (.slice aq lq kq) (.slice (some ⟨w5.heap.size, 0, none⟩) 1 1) rq [1] w6 ((HQ5.out.1.arg HLQ.out.1).below hb6) (A6.arg (by simp)) (by have := HLN.out.1; omega) (by simp)
        rw [HQ5.out.2.1, show val [1] = 1 from by simp [val]] at hSM
        have HB6 := hide hb6
        clear hb6 hx6 hblk A6
        go_wp2_with fail
        refine hSM.mono ?_
        rintro e w7 ⟨⟨v7, r7, rfl, A7, e7, t7⟩, hb7⟩
        obtain ⟨a7, k7, rfl⟩ := A7.shape
        have hb67 := HB6.out.trans (hb7.mono HB6.out.size)
        have HR2' := hide (block_upW hb67 HR2.out)
        have HR3' := hide (block_upW hb67 HR3.out)
        have HWB := hide (HWB5.out.trans (hb67.mono HWB5.out.size))
        have hl7 : r7.length ≤ rq.length + 1 := by
          rw [← t7]; refine tr_len_lt r7 _ ?_
          rw [e7]
          have h1 := val_lt HQ5.out.1.limbs
          rw [HQ5.out.2.1] at h1
          rw [Nat.pow_succ]
          have h0 := W_pos rq.length
          generalize 18446744073709551616 ^ rq.length = P9 at *
          omega
        have hlqx := HLN.out.1
        obtain ⟨l7, hl7e⟩ : ∃ l7, r7.length = l7 := ⟨_, rfl⟩
        rw [hl7e] at A7 ⊢
        have hAP7 := apart_of2 (v2 := .slice a3 l3 k3) (fun g hg => Nat.lt_of_lt_of_le (HL5.out.1.own.lt g hg).2 HB6.out.size) A7
        have hs57 : w.heap.size ≤ w6.heap.size := Nat.le_trans HWB5.out.size HB6.out.size
        have HQ := hide (And.intro (A7.base hs57) (And.intro e7 t7))
        have HR := hide (And.intro (HL5.out.1.below hb67) HL5.out.2)
        have hq9 := HQZ.out
        have hr9 := HRZ.out
        rw [decide_eq_true hr0] at hq9 hr9
        simp only [Bool.true_and, if_true] at hq9 hr9
        clear HQ5 HR5 HAP HLQ HR2 HR3 HWB5 HQZ HRZ
        have HAP := hide hAP7
        have HLQ := hide (And.intro (show r7.length ≤ 1125899906842624 by omega) HLN3.out)
        have HR2 := HR2'
        have HR3 := HR3'
        have HQZ := hide hq9
        have HRZ := hide hr9
        clear hq9 hr9 HL5 hb7 hb67 A7 e7 t7 hSM HB6 hs57 HR2' HR3' hw6
        obtain ⟨wv, hwv, hbv, hxv⟩ := enter1 w7 (.cells #[.slice a7 l7 k7, .slice a3 l3 k3] 25)
        have hAB := wanyBig_two w7.heap.size (.slice a7 l7 k7) (.slice a3 l3 k3) r7 r3 wv hxv ((HQ.out.1.arg HLQ.out.1).below hbv) ((HR.out.1.arg HLQ.out.2).below hbv)
        have HR2v := hide (block_upW hbv HR2.out)
        have HR3v := hide (block_upW hbv HR3.out)
        have HBV := hide (HWB.out.trans (hbv.mono HWB.out.size))
        have HQv := hide (HQ.out.1.below hbv)
        have HRv := hide (HR.out.1.below hbv)
        clear hbv hxv HR2 HR3
        by_cases hbig : 67108864 < blen (val r7) ∨ 67108864 < blen (val r3)
        · rw [decide_eq_true hbig] at hAB
          have HBIG := hide hbig
          clear hbig
          go_wp2_with fail
          refine hAB.mono ?_
          rintro e wn ⟨rfl, hw⟩; rw [hw]; clear hw wn hAB
          have HR2 := HR2v
          have HR3 := HR3v
          have HBE := HBV
          have hf2 := duof HR2.out
          have hf3 := duof HR3.out
          obtain ⟨m0, m1⟩ := duo HR2.out
          obtain ⟨m2, m3⟩ := duo HR3.out
          go_wp2
          have hq4 := quad (base := w.heap.size) (u0 := .bool false) (u1 := (.slice none 0 0)) (u2 := .bool false) (u3 := (.slice none 0 0)) HR2.out HR3.out
          have HD := hide (And.intro hq4.2.2 (quad_below HBE.out (g := w.heap.size + 2) (u0 := .bool false) (u1 := (.slice none 0 0)) (u2 := .bool false) (u3 := (.slice none 0 0)) (by omega)))
          obtain ⟨R5, R6, _⟩ := hq4
          generalize (((wv.setCell ⟨w.heap.size + 2, 0, none⟩ (.bool false)).setCell ⟨w.heap.size + 2, 1, none⟩ ((.slice none 0 0))).setCell ⟨w.heap.size + 2 + 1, 0, none⟩ (.bool false)).setCell ⟨w.heap.size + 2 + 1, 1, none⟩ ((.slice none 0 0)) = w5 at *
          obtain ⟨q0, q1⟩ := duo R5
          obtain ⟨q2, q3⟩ := duo R6
          refine bodyPost_ret (v := .tuple #[.agg #[.bool false, (.slice none 0 0)], .agg #[.bool false, (.slice none 0 0)], .int .i64 3]) (by simp [results, Tryz.results66, go_sem, q0, q1, q2, q3]) rfl ?_
          refine ⟨⟨_, _, _, _, _, _, _, _, 3, rfl, [], [], Ans.nil _ _, Ans.nil _ _, .inl rfl, .inr ⟨rfl, rfl, rfl, rfl, rfl, rfl, rfl, ?_⟩⟩, HD.out.2⟩
          rw [HQZ.out, HRZ.out, zz_abs, zz_abs, ← HQ.out.2.1, ← HR.out.2.1]
          exact HBIG.out
        · rw [decide_eq_false hbig] at hAB
          have HBIG := hide hbig
          clear hbig
          go_wp2_with fail
          refine hAB.mono ?_
          rintro e wn ⟨rfl, hw⟩; rw [hw]; clear hw wn hAB
          have hS1 := wsigned_any ap (.slice a7 l7 k7) r7 _ wv HQv.out
          rw [zz_sign ap HQ.out.2.2 HQ.out.2.1, ← HQZ.out] at hS1
          go_wp2_with fail
          refine hS1.mono ?_
          rintro e ws ⟨rfl, hbs⟩
          have hS2 := wsigned_any (!b1) (.slice a3 l3 k3) r3 _ ws (HRv.out.below hbs)
          rw [zz_sign (!b1) HR.out.2.2 HR.out.2.1, ← HRZ.out] at hS2
          have HBS := hide hbs
          clear hbs hS1
          go_wp2_with fail
          refine hS2.mono ?_
          rintro e wt ⟨rfl, hbt⟩
          have hbst := HBS.out.trans (hbt.mono HBS.out.size)
          have HR2 := hide (block_upW hbst HR2v.out)
          have HR3 := hide (block_upW hbst HR3v.out)
          have HBE := hide (HBV.out.trans (hbst.mono HBV.out.size))
          have HQt := hide (HQv.out.below hbst)
          have HRt := hide (HRv.out.below hbst)
          have hf2 := duof HR2.out
          have hf3 := duof HR3.out
          obtain ⟨m0, m1⟩ := duo HR2.out
          obtain ⟨m2, m3⟩ := duo HR3.out
          clear hbt hbst hS2 HR2v HR3v hwv
          obtain ⟨uq, huq⟩ : ∃ ub, decide (qz < 0) = ub := ⟨_, rfl⟩
          obtain ⟨ur, hur⟩ : ∃ ub, decide (rz < 0) = ub := ⟨_, rfl⟩
          rw [huq, hur]
          go_wp2
          have hq4 := quad (base := w.heap.size) (u0 := .bool uq) (u1 := (.slice a7 l7 k7)) (u2 := .bool ur) (u3 := (.slice a3 l3 k3)) HR2.out HR3.out
          have HD := hide (And.intro hq4.2.2 (quad_below HBE.out (g := w.heap.size + 2) (u0 := .bool uq) (u1 := (.slice a7 l7 k7)) (u2 := .bool ur) (u3 := (.slice a3 l3 k3)) (by omega)))
          obtain ⟨R5, R6, _⟩ := hq4
          generalize (((wt.setCell ⟨w.heap.size + 2, 0, none⟩ (.bool uq)).setCell ⟨w.heap.size + 2, 1, none⟩ ((.slice a7 l7 k7))).setCell ⟨w.heap.size + 2 + 1, 0, none⟩ (.bool ur)).setCell ⟨w.heap.size + 2 + 1, 1, none⟩ ((.slice a3 l3 k3)) = w5 at *
          obtain ⟨q0, q1⟩ := duo R5
          obtain ⟨q2, q3⟩ := duo R6
          refine bodyPost_ret (v := .tuple #[.agg #[.bool uq, (.slice a7 l7 k7)], .agg #[.bool ur, (.slice a3 l3 k3)], .int .i64 0]) (by simp [results, Tryz.results66, go_sem, q0, q1, q2, q3]) rfl ?_
          refine ⟨⟨_, _, _, _, _, _, _, _, 0, rfl, r7, r3, HD.out.1 _ _ HQt.out, HD.out.1 _ _ HRt.out, HAP.out, .inl ⟨rfl, huq.symm, ?_, HQ.out.2.2, hur.symm, ?_, HR.out.2.2, ?_, ?_⟩⟩, HD.out.2⟩
          · rw [HQZ.out, zz_abs]; exact HQ.out.2.1
          · rw [HRZ.out, zz_abs]; exact HR.out.2.1
          · rw [HQZ.out, zz_abs, ← HQ.out.2.1]; have := HBIG.out; omega
          · rw [HRZ.out, zz_abs, ← HR.out.2.1]; have := HBIG.out; omega
    · have i3 : ¬ (0 : Int) < (lr : Int) := by omega
      have hr0 : val X % val Y = 0 := by omega
      have HQ := HQA2
      have HR := HRA2
      have hfz : (fu && decide (0 < val X % val Y)) = false := by rw [hr0]; simp
      have hq9 := HQZ.out
      have hr9 := HRZ.out
      rw [hfz] at hq9 hr9
      simp only [Bool.false_eq_true, if_false, Nat.add_zero] at hq9 hr9
      clear HQZ HRZ
      have HQZ := hide hq9
      have HRZ := hide hr9
      clear hq9 hr9 hfz HQA2 HRA2 hnz f2 f3 HK12 HB12
      obtain ⟨wv, hwv, hbv, hxv⟩ := enter1 wq (.cells #[.slice aq lq kq, .slice ar lr kr] 25)
      have hAB := wanyBig_two wq.heap.size (.slice aq lq kq) (.slice ar lr kr) rq rr wv hxv ((HQ.out.1.arg HLQ.out.1).below hbv) ((HR.out.1.arg HLQ.out.2).below hbv)
      have HR2v := hide (block_upW hbv HR2.out)
      have HR3v := hide (block_upW hbv HR3.out)
      have HBV := hide (HWB.out.trans (hbv.mono HWB.out.size))
      have HQv := hide (HQ.out.1.below hbv)
      have HRv := hide (HR.out.1.below hbv)
      clear hbv hxv HR2 HR3
      by_cases hbig : 67108864 < blen (val rq) ∨ 67108864 < blen (val rr)
      · rw [decide_eq_true hbig] at hAB
        have HBIG := hide hbig
        clear hbig
        go_wp2_with fail
        refine hAB.mono ?_
        rintro e wn ⟨rfl, hw⟩; rw [hw]; clear hw wn hAB
        have HR2 := HR2v
        have HR3 := HR3v
        have HBE := HBV
        have hf2 := duof HR2.out
        have hf3 := duof HR3.out
        obtain ⟨m0, m1⟩ := duo HR2.out
        obtain ⟨m2, m3⟩ := duo HR3.out
        go_wp2
        have hq4 := quad (base := w.heap.size) (u0 := .bool false) (u1 := (.slice none 0 0)) (u2 := .bool false) (u3 := (.slice none 0 0)) HR2.out HR3.out
        have HD := hide (And.intro hq4.2.2 (quad_below HBE.out (g := w.heap.size + 2) (u0 := .bool false) (u1 := (.slice none 0 0)) (u2 := .bool false) (u3 := (.slice none 0 0)) (by omega)))
        obtain ⟨R5, R6, _⟩ := hq4
        generalize (((wv.setCell ⟨w.heap.size + 2, 0, none⟩ (.bool false)).setCell ⟨w.heap.size + 2, 1, none⟩ ((.slice none 0 0))).setCell ⟨w.heap.size + 2 + 1, 0, none⟩ (.bool false)).setCell ⟨w.heap.size + 2 + 1, 1, none⟩ ((.slice none 0 0)) = w5 at *
        obtain ⟨q0, q1⟩ := duo R5
        obtain ⟨q2, q3⟩ := duo R6
        refine bodyPost_ret (v := .tuple #[.agg #[.bool false, (.slice none 0 0)], .agg #[.bool false, (.slice none 0 0)], .int .i64 3]) (by simp [results, Tryz.results66, go_sem, q0, q1, q2, q3]) rfl ?_
        refine ⟨⟨_, _, _, _, _, _, _, _, 3, rfl, [], [], Ans.nil _ _, Ans.nil _ _, .inl rfl, .inr ⟨rfl, rfl, rfl, rfl, rfl, rfl, rfl, ?_⟩⟩, HD.out.2⟩
        rw [HQZ.out, HRZ.out, zz_abs, zz_abs, ← HQ.out.2.1, ← HR.out.2.1]
        exact HBIG.out
      · rw [decide_eq_false hbig] at hAB
        have HBIG := hide hbig
        clear hbig
        go_wp2_with fail
        refine hAB.mono ?_
        rintro e wn ⟨rfl, hw⟩; rw [hw]; clear hw wn hAB
        have hS1 := wsigned_any ap (.slice aq lq kq) rq _ wv HQv.out
        rw [zz_sign ap HQ.out.2.2 HQ.out.2.1, ← HQZ.out] at hS1
        go_wp2_with fail
        refine hS1.mono ?_
        rintro e ws ⟨rfl, hbs⟩
        have hS2 := wsigned_any b1 (.slice ar lr kr) rr _ ws (HRv.out.below hbs)
        rw [zz_sign b1 HR.out.2.2 HR.out.2.1, ← HRZ.out] at hS2
        have HBS := hide hbs
        clear hbs hS1
        go_wp2_with fail
        refine hS2.mono ?_
        rintro e wt ⟨rfl, hbt⟩
        have hbst := HBS.out.trans (hbt.mono HBS.out.size)
        have HR2 := hide (block_upW hbst HR2v.out)
        have HR3 := hide (block_upW hbst HR3v.out)
        have HBE := hide (HBV.out.trans (hbst.mono HBV.out.size))
        have HQt := hide (HQv.out.below hbst)
        have HRt := hide (HRv.out.below hbst)
        have hf2 := duof HR2.out
        have hf3 := duof HR3.out
        obtain ⟨m0, m1⟩ := duo HR2.out
        obtain ⟨m2, m3⟩ := duo HR3.out
        clear hbt hbst hS2 HR2v HR3v hwv
        obtain ⟨uq, huq⟩ : ∃ ub, decide (qz < 0) = ub := ⟨_, rfl⟩
        obtain ⟨ur, hur⟩ : ∃ ub, decide (rz < 0) = ub := ⟨_, rfl⟩
        rw [huq, hur]
        go_wp2
        have hq4 := quad (base := w.heap.size) (u0 := .bool uq) (u1 := (.slice aq lq kq)) (u2 := .bool ur) (u3 := (.slice ar lr kr)) HR2.out HR3.out
        have HD := hide (And.intro hq4.2.2 (quad_below HBE.out (g := w.heap.size + 2) (u0 := .bool uq) (u1 := (.slice aq lq kq)) (u2 := .bool ur) (u3 := (.slice ar lr kr)) (by omega)))
        obtain ⟨R5, R6, _⟩ := hq4
        generalize (((wt.setCell ⟨w.heap.size + 2, 0, none⟩ (.bool uq)).setCell ⟨w.heap.size + 2, 1, none⟩ ((.slice aq lq kq))).setCell ⟨w.heap.size + 2 + 1, 0, none⟩ (.bool ur)).setCell ⟨w.heap.size + 2 + 1, 1, none⟩ ((.slice ar lr kr)) = w5 at *
        obtain ⟨q0, q1⟩ := duo R5
        obtain ⟨q2, q3⟩ := duo R6
        refine bodyPost_ret (v := .tuple #[.agg #[.bool uq, (.slice aq lq kq)], .agg #[.bool ur, (.slice ar lr kr)], .int .i64 0]) (by simp [results, Tryz.results66, go_sem, q0, q1, q2, q3]) rfl ?_
        refine ⟨⟨_, _, _, _, _, _, _, _, 0, rfl, rq, rr, HD.out.1 _ _ HQt.out, HD.out.1 _ _ HRt.out, HAP.out, .inl ⟨rfl, huq.symm, ?_, HQ.out.2.2, hur.symm, ?_, HR.out.2.2, ?_, ?_⟩⟩, HD.out.2⟩
        · rw [HQZ.out, zz_abs]; exact HQ.out.2.1
        · rw [HRZ.out, zz_abs]; exact HR.out.2.1
        · rw [HQZ.out, zz_abs, ← HQ.out.2.1]; have := HBIG.out; omega
        · rw [HRZ.out, zz_abs, ← HR.out.2.1]; have := HBIG.out; omega

end Go.Proofs.YtfgcngndiblpmaaGreatDoor

/- Package whole: divide, with a rest from 0 on. -/
namespace Go.Proofs.YtfgcngndiblpmaaGreatDoor
open Go.RowKit
open Lm
attribute [local go_sem ↓] Go.wp_at_zero Go.wp_at_succ

set_option maxRecDepth 20000 in
set_option maxHeartbeats 4000000 in
attribute [local go_sem] pick5 fld5 in
theorem wdivide_5 (b1 : Bool) (v : Value) (X : List Nat) (b2 : Bool) (u : Value) (Y : List Nat) (ap fu : Bool) (qz rz : Int) (w : World) (hA : Arg w v X) (hB : Arg w u Y) (hT : Tab w) (hx : X.length ≤ 17592186043904) (hy : Y.length ≤ 17592186043904) (hy0 : 0 < val Y)
    (hap : (b1 != b2) = ap) (hfu : b1 = fu)
    (hqz : qz = zz ap (val X / val Y + if fu && decide (0 < val X % val Y) then 1 else 0)) (hrz : rz = zz (if fu && decide (0 < val X % val Y) then !b1 else b1) (if fu && decide (0 < val X % val Y) then val Y - val X % val Y else val X % val Y)) :
    Calls Tryz.prog 66 #[.int .i64 4, .agg #[.bool b1, v], .agg #[.bool b2, u]] w (WDivDone w qz rz) := by
  have hap2 : (!(b1 == b2)) = ap := hap
  have HFU := hide hfu
  clear hfu
  obtain ⟨a, n, rfl, hn1, hn2, _⟩ := hA.form
  obtain ⟨a9, n9, rfl, hn3, hn4, _⟩ := hB.form
  obtain ⟨w0, hw0, hb0, h0, h1, h2, h3⟩ := enter4 w (.cells #[.bool b1, .slice a X.length n] 27) (.cells #[.bool b2, .slice a9 Y.length n9] 27) (.cells #[.bool false, .slice none 0 0] 27) (.cells #[.bool false, .slice none 0 0] 27)
  obtain ⟨k0, k1⟩ := duo h0
  obtain ⟨k2, k3⟩ := duo h1
  have hbx : blen (val X) ≤ 64 * X.length := blen_val_le X hA.limbs
  have hby : blen (val Y) ≤ 64 * Y.length := blen_val_le Y hB.limbs
  have HZ := wisZero_any _ Y w0 (hB.below hb0)
  rw [decide_eq_false (by omega)] at HZ
  obtain ⟨wd, hwd⟩ : ∃ wd, w0.drew = wd := ⟨_, rfl⟩
  have hbd : Below w0.heap.size w0 wd := by rw [← hwd]; exact (Below.refl _ _).drew
  have hbwd := hb0.trans (hbd.mono hb0.size)
  have L1 := length_val _ X wd (hA.below hbwd)
  have L2 := length_val _ Y wd (hB.below hbwd)
  have g0 := block_upW hbd h0
  have g1 := block_upW hbd h1
  obtain ⟨d0, d1⟩ := duo g0
  obtain ⟨d2, d3⟩ := duo g1
  have HG0 := hide g0
  have HG1 := hide g1
  have HG2 := hide (block_upW hbd h2)
  have HG3 := hide (block_upW hbd h3)
  have HWD := hide hbwd
  obtain ⟨dd, hdd⟩ : ∃ dd : Int, ((blen (val X) : Nat) : Int) - ((blen (val Y) : Nat) : Int) = dd := ⟨_, rfl⟩
  have wdd : IntKind.i64.wrap dd = dd := by rw [IntKind.wrap_i64]; omega
  have wdd2 : IntKind.i64.wrap (((blen (val X) : Nat) : Int) - ((blen (val Y) : Nat) : Int)) = dd := by rw [IntKind.wrap_i64]; omega
  have HQZ := hide hqz
  have HRZ := hide hrz
  have HA := hide (hA.below hbwd)
  have HB := hide (hB.below hbwd)
  have HT := hide (hT.below hbwd)
  by_cases hbig : 67108864 + blen (val Y) < blen (val X)
  · have i1 : (67108864 : Int) < dd := by omega
    have HBQ : Hid (67108864 < blen qz.natAbs) := by
      refine hide ?_
      rw [hqz, zz_abs]
      refine Nat.lt_of_lt_of_le ?_ (blen_mono (Nat.le_add_right _ _))
      exact blen_quo_ge (by omega) hbig
    generalize blen (val X) = lx at *
    generalize blen (val Y) = ly at *
    clear hA hB hT hb0 h0 h1 h2 h3 hbd hbwd g0 g1 HQZ HRZ hqz hrz hbig
    go_enter Tryz.func66, Tryz.ntmps66
    go_wp2_with fail
    refine HZ.mono ?_
    rintro e wn ⟨rfl, hw⟩; rw [hw]; clear hw wn HZ
    go_wp2
    go_region_held3 (fun w' => w'.cell? ⟨w.heap.size, 1, none⟩ = some (.slice a X.length n) ∧ w'.cell? ⟨w.heap.size + 1, 1, none⟩ = some (.slice a9 Y.length n9)) (go_keep) (first
      | (go_at_call_of 93 a; (try rw [hwd]); refine L1.mono ?_; rintro e' wn ⟨rfl, hw⟩; rw [hw]; clear hw wn)
      | (go_at_call_of 93 a9; (try rw [hwd]); refine L2.mono ?_; rintro e' wn ⟨rfl, hw⟩; rw [hw]; clear hw wn))

    have HR2 := HG2
    have HR3 := HG3
    have HBE := HWD
    have hf2 := duof HR2.out
    have hf3 := duof HR3.out
    obtain ⟨m0, m1⟩ := duo HR2.out
    obtain ⟨m2, m3⟩ := duo HR3.out
    go_wp2
    have hq4 := quad (base := w.heap.size) (u0 := .bool false) (u1 := (.slice none 0 0)) (u2 := .bool false) (u3 := (.slice none 0 0)) HR2.out HR3.out
    have HD := hide (And.intro hq4.2.2 (quad_below HBE.out (g := w.heap.size + 2) (u0 := .bool false) (u1 := (.slice none 0 0)) (u2 := .bool false) (u3 := (.slice none 0 0)) (by omega)))
    obtain ⟨R5, R6, _⟩ := hq4
    generalize (((wd.setCell ⟨w.heap.size + 2, 0, none⟩ (.bool false)).setCell ⟨w.heap.size + 2, 1, none⟩ ((.slice none 0 0))).setCell ⟨w.heap.size + 2 + 1, 0, none⟩ (.bool false)).setCell ⟨w.heap.size + 2 + 1, 1, none⟩ ((.slice none 0 0)) = w5 at *
    obtain ⟨q0, q1⟩ := duo R5
    obtain ⟨q2, q3⟩ := duo R6
    refine bodyPost_ret (v := .tuple #[.agg #[.bool false, (.slice none 0 0)], .agg #[.bool false, (.slice none 0 0)], .int .i64 3]) (by simp [results, Tryz.results66, go_sem, q0, q1, q2, q3]) rfl ?_
    exact ⟨⟨_, _, _, _, _, _, _, _, 3, rfl, [], [], Ans.nil _ _, Ans.nil _ _, .inl rfl, .inr ⟨rfl, rfl, rfl, rfl, rfl, rfl, rfl, .inl HBQ.out⟩⟩, HD.out.2⟩
  · have i1 : ¬ (67108864 : Int) < dd := by omega
    have HBO := wboth_any (blen (val X)) X Y _ _ wd (by omega) HA.out HB.out HT.out (by omega) (by omega) hy0
    generalize blen (val X) = lx at *
    generalize blen (val Y) = ly at *
    clear hA hB hT hb0 h0 h1 h2 h3 hbd hbwd g0 g1 hqz hrz hbig
    go_enter Tryz.func66, Tryz.ntmps66
    go_wp2_with fail
    refine HZ.mono ?_
    rintro e wn ⟨rfl, hw⟩; rw [hw]; clear hw wn HZ
    go_wp2
    go_region_held3 (fun w' => w'.cell? ⟨w.heap.size, 1, none⟩ = some (.slice a X.length n) ∧ w'.cell? ⟨w.heap.size + 1, 1, none⟩ = some (.slice a9 Y.length n9)) (go_keep) (first
      | (go_at_call_of 93 a; (try rw [hwd]); refine L1.mono ?_; rintro e' wn ⟨rfl, hw⟩; rw [hw]; clear hw wn)
      | (go_at_call_of 93 a9; (try rw [hwd]); refine L2.mono ?_; rintro e' wn ⟨rfl, hw⟩; rw [hw]; clear hw wn))

    go_wp2_with fail
    refine HBO.mono ?_
    rintro e w1 ⟨⟨v1, v2, rq, rr, rfl, A1, A2, e1, t1, e2, t2, hapt⟩, hb1⟩
    obtain ⟨aq, kq, rfl⟩ := A1.shape
    obtain ⟨ar, kr, rfl⟩ := A2.shape
    have hlq : rq.length ≤ X.length := by
      rw [← t1]; refine tr_len_lt rq _ ?_
      rw [e1]; exact Nat.lt_of_le_of_lt (Nat.div_le_self _ _) (val_lt HA.out.limbs)
    have hlr : rr.length ≤ Y.length := by
      rw [← t2]; refine tr_len_lt rr _ ?_
      rw [e2]; exact Nat.lt_trans (Nat.mod_lt _ hy0) (val_lt HB.out.limbs)
    have hnz := norm_zero t2
    rw [e2] at hnz
    have HWB := hide (HWD.out.trans (hb1.mono HWD.out.size))
    have HK0 := hide (block_upW hb1 HG0.out)
    have HK1 := hide (block_upW hb1 HG1.out)
    have HR2 := hide (block_upW hb1 HG2.out)
    have HR3 := hide (block_upW hb1 HG3.out)
    have HB1 := hide (HB.out.below hb1)
    have HT1 := hide (HT.out.below hb1)
    have HQA := hide (And.intro (A1.base HWD.out.size) (And.intro e1 t1))
    have HRA := hide (And.intro (A2.base HWD.out.size) (And.intro e2 t2))
    have HAP := hide hapt
    have HLQ := hide (And.intro (show rq.length ≤ 1125899906842624 by omega) (show rr.length ≤ 1125899906842624 by omega))
    obtain ⟨f0, f1⟩ := duo HK0.out
    obtain ⟨f2, f3⟩ := duo HK1.out
    obtain ⟨lq, hnq⟩ : ∃ lq, rq.length = lq := ⟨_, rfl⟩
    obtain ⟨lr, hnr⟩ : ∃ lr, rr.length = lr := ⟨_, rfl⟩
    rw [hnq] at HQA HAP ⊢
    rw [hnr] at HRA HAP ⊢
    have HLN := hide (And.intro hlq (And.intro hlr (And.intro hnq hnr)))
    rw [hnr] at hnz
    clear A1 A2 e1 e2 t1 t2 hapt hb1 HBO k0 k1 k2 k3 d0 d1 d2 d3 hlq hlr hnq hnr HG0 HG1 HG2 HG3 HA HB HT L1 L2
    go_wp2
    go_quiet (fail)
    obtain ⟨wq, hwq⟩ : ∃ wq, wq = w1.drewN nq := ⟨_, rfl⟩
    have hbq : Below w1.heap.size w1 wq := by rw [hwq]; exact ((Same.refl w1).drewN nq).below _
    rw [← hwq]
    have HWB2 := hide (HWB.out.trans (hbq.mono HWB.out.size))
    have HK12 := hide (block_upW hbq HK1.out)
    have HR22 := hide (block_upW hbq HR2.out)
    have HR32 := hide (block_upW hbq HR3.out)
    have HB12 := hide (HB1.out.below hbq)
    have HQA2 := hide (And.intro (HQA.out.1.below hbq) HQA.out.2)
    have HRA2 := hide (And.intro (HRA.out.1.below hbq) HRA.out.2)
    clear HWB HK0 HK1 HR2 HR3 HB1 HQA HRA f0 f1 f2 f3 hwq hbq HT1
    have HWB := HWB2
    have HR2 := HR22
    have HR3 := HR32
    obtain ⟨f2, f3⟩ := duo HK12.out
    clear HWB2 HR22 HR32
    by_cases hr : 0 < lr
    · have i3 : (0 : Int) < (lr : Int) := by omega
      have hr0 : 0 < val X % val Y := by omega
      have hml := Nat.mod_lt (val X) hy0
      clear hnz
      have HLS := wless_any _ (.slice ar lr kr) Y rr wq HB12.out (HRA2.out.1.arg HLQ.out.2) (by omega) (by rw [HRA2.out.2.1]; omega)
      rw [HRA2.out.2.1] at HLS
      go_wp2_with fail
      refine HLS.mono ?_
      rintro e w3 ⟨⟨v3, r3, rfl, A3, e3, t3⟩, hb3⟩
      obtain ⟨a3, k3, rfl⟩ := A3.shape
      have hl3 : r3.length ≤ Y.length := by
        rw [← t3]; refine tr_len_lt r3 _ ?_
        rw [e3]; exact Nat.lt_of_le_of_lt (Nat.sub_le _ _) (val_lt HB12.out.limbs)
      obtain ⟨l3, hl3e⟩ : ∃ l3, r3.length = l3 := ⟨_, rfl⟩
      rw [hl3e] at A3 ⊢
      have hDV := wdivs_any w3
      have HB3 := hide hb3
      have HA3 := hide (And.intro A3 (And.intro e3 (And.intro t3 (show r3.length ≤ 1125899906842624 by omega))))
      clear A3 e3 t3 hb3 hl3 hl3e HLS f2 f3 HK12 HB12
      go_wp2_with fail
      refine hDV.mono ?_
      rintro e w4 ⟨rfl, hb4⟩
      have HB4 := hide (HB3.out.trans (hb4.mono HB3.out.size))
      have HA4 := hide (HA3.out.1.below hb4)
      have hFU : Calls Tryz.prog 125 #[cutV (.slice aq lq kq) (.slice ar lr kr) (.slice a3 l3 k3) b1 ap] w4 (fun e w' => e = .returned (.bool fu) ∧ Below w4.heap.size w4 w') := (fur5 aq ar a3 lq kq lr kr l3 k3 b1 ap w4).mono (fun e w' h => ⟨h.1.trans (by rw [HFU.out]), h.2⟩)
      clear hb4 hDV HB3
      go_wp2_with fail
      refine hFU.mono ?_
      rintro e w5 ⟨rfl, hb5⟩
      have hb45 := HB4.out.trans (hb5.mono HB4.out.size)
      have HR2' := hide (block_upW hb45 HR2.out)
      have HR3' := hide (block_upW hb45 HR3.out)
      have HQ5 := hide (And.intro (HQA2.out.1.below hb45) HQA2.out.2)
      have HR5 := hide (And.intro (HRA2.out.1.below hb45) HRA2.out.2)
      have HL5 := hide (And.intro ((HA4.out.below hb5).base (Nat.le_trans HWB.out.size (Nat.le_refl _))) (And.intro HA3.out.2.1 HA3.out.2.2.1))
      have HWB5 := hide (HWB.out.trans (hb45.mono HWB.out.size))
      have HLN3 := hide HA3.out.2.2.2
      clear hb5 hb45 hFU HA4 HB4 HA3 HR2 HR3 HWB HQA2 HRA2
      have HR2 := HR2'
      have HR3 := HR3'
      clear HR2' HR3'
      cases fu
      · have HQ := HQ5
        have HR := HR5
        have HWB := HWB5
        have hq9 := HQZ.out
        have hr9 := HRZ.out
        simp only [Bool.false_and, Bool.false_eq_true, if_false, Nat.add_zero] at hq9 hr9
        clear HQZ HRZ
        have HQZ := hide hq9
        have HRZ := hide hr9
        clear hq9 hr9 HQ5 HR5 HL5 HWB5
        obtain ⟨wv, hwv, hbv, hxv⟩ := enter1 w5 (.cells #[.slice aq lq kq, .slice ar lr kr] 25)
        have hAB := wanyBig_two w5.heap.size (.slice aq lq kq) (.slice ar lr kr) rq rr wv hxv ((HQ.out.1.arg HLQ.out.1).below hbv) ((HR.out.1.arg HLQ.out.2).below hbv)
        have HR2v := hide (block_upW hbv HR2.out)
        have HR3v := hide (block_upW hbv HR3.out)
        have HBV := hide (HWB.out.trans (hbv.mono HWB.out.size))
        have HQv := hide (HQ.out.1.below hbv)
        have HRv := hide (HR.out.1.below hbv)
        clear hbv hxv HR2 HR3
        by_cases hbig : 67108864 < blen (val rq) ∨ 67108864 < blen (val rr)
        · rw [decide_eq_true hbig] at hAB
          have HBIG := hide hbig
          clear hbig
          go_wp2_with fail
          refine hAB.mono ?_
          rintro e wn ⟨rfl, hw⟩; rw [hw]; clear hw wn hAB
          have HR2 := HR2v
          have HR3 := HR3v
          have HBE := HBV
          have hf2 := duof HR2.out
          have hf3 := duof HR3.out
          obtain ⟨m0, m1⟩ := duo HR2.out
          obtain ⟨m2, m3⟩ := duo HR3.out
          go_wp2
          have hq4 := quad (base := w.heap.size) (u0 := .bool false) (u1 := (.slice none 0 0)) (u2 := .bool false) (u3 := (.slice none 0 0)) HR2.out HR3.out
          have HD := hide (And.intro hq4.2.2 (quad_below HBE.out (g := w.heap.size + 2) (u0 := .bool false) (u1 := (.slice none 0 0)) (u2 := .bool false) (u3 := (.slice none 0 0)) (by omega)))
          obtain ⟨R5, R6, _⟩ := hq4
          generalize (((wv.setCell ⟨w.heap.size + 2, 0, none⟩ (.bool false)).setCell ⟨w.heap.size + 2, 1, none⟩ ((.slice none 0 0))).setCell ⟨w.heap.size + 2 + 1, 0, none⟩ (.bool false)).setCell ⟨w.heap.size + 2 + 1, 1, none⟩ ((.slice none 0 0)) = w5 at *
          obtain ⟨q0, q1⟩ := duo R5
          obtain ⟨q2, q3⟩ := duo R6
          refine bodyPost_ret (v := .tuple #[.agg #[.bool false, (.slice none 0 0)], .agg #[.bool false, (.slice none 0 0)], .int .i64 3]) (by simp [results, Tryz.results66, go_sem, q0, q1, q2, q3]) rfl ?_
          refine ⟨⟨_, _, _, _, _, _, _, _, 3, rfl, [], [], Ans.nil _ _, Ans.nil _ _, .inl rfl, .inr ⟨rfl, rfl, rfl, rfl, rfl, rfl, rfl, ?_⟩⟩, HD.out.2⟩
          rw [HQZ.out, HRZ.out, zz_abs, zz_abs, ← HQ.out.2.1, ← HR.out.2.1]
          exact HBIG.out
        · rw [decide_eq_false hbig] at hAB
          have HBIG := hide hbig
          clear hbig
          go_wp2_with fail
          refine hAB.mono ?_
          rintro e wn ⟨rfl, hw⟩; rw [hw]; clear hw wn hAB
          have hS1 := wsigned_any ap (.slice aq lq kq) rq _ wv HQv.out
          rw [zz_sign ap HQ.out.2.2 HQ.out.2.1, ← HQZ.out] at hS1
          go_wp2_with fail
          refine hS1.mono ?_
          rintro e ws ⟨rfl, hbs⟩
          have hS2 := wsigned_any b1 (.slice ar lr kr) rr _ ws (HRv.out.below hbs)
          rw [zz_sign b1 HR.out.2.2 HR.out.2.1, ← HRZ.out] at hS2
          have HBS := hide hbs
          clear hbs hS1
          go_wp2_with fail
          refine hS2.mono ?_
          rintro e wt ⟨rfl, hbt⟩
          have hbst := HBS.out.trans (hbt.mono HBS.out.size)
          have HR2 := hide (block_upW hbst HR2v.out)
          have HR3 := hide (block_upW hbst HR3v.out)
          have HBE := hide (HBV.out.trans (hbst.mono HBV.out.size))
          have HQt := hide (HQv.out.below hbst)
          have HRt := hide (HRv.out.below hbst)
          have hf2 := duof HR2.out
          have hf3 := duof HR3.out
          obtain ⟨m0, m1⟩ := duo HR2.out
          obtain ⟨m2, m3⟩ := duo HR3.out
          clear hbt hbst hS2 HR2v HR3v hwv
          obtain ⟨uq, huq⟩ : ∃ ub, decide (qz < 0) = ub := ⟨_, rfl⟩
          obtain ⟨ur, hur⟩ : ∃ ub, decide (rz < 0) = ub := ⟨_, rfl⟩
          rw [huq, hur]
          go_wp2
          have hq4 := quad (base := w.heap.size) (u0 := .bool uq) (u1 := (.slice aq lq kq)) (u2 := .bool ur) (u3 := (.slice ar lr kr)) HR2.out HR3.out
          have HD := hide (And.intro hq4.2.2 (quad_below HBE.out (g := w.heap.size + 2) (u0 := .bool uq) (u1 := (.slice aq lq kq)) (u2 := .bool ur) (u3 := (.slice ar lr kr)) (by omega)))
          obtain ⟨R5, R6, _⟩ := hq4
          generalize (((wt.setCell ⟨w.heap.size + 2, 0, none⟩ (.bool uq)).setCell ⟨w.heap.size + 2, 1, none⟩ ((.slice aq lq kq))).setCell ⟨w.heap.size + 2 + 1, 0, none⟩ (.bool ur)).setCell ⟨w.heap.size + 2 + 1, 1, none⟩ ((.slice ar lr kr)) = w5 at *
          obtain ⟨q0, q1⟩ := duo R5
          obtain ⟨q2, q3⟩ := duo R6
          refine bodyPost_ret (v := .tuple #[.agg #[.bool uq, (.slice aq lq kq)], .agg #[.bool ur, (.slice ar lr kr)], .int .i64 0]) (by simp [results, Tryz.results66, go_sem, q0, q1, q2, q3]) rfl ?_
          refine ⟨⟨_, _, _, _, _, _, _, _, 0, rfl, rq, rr, HD.out.1 _ _ HQt.out, HD.out.1 _ _ HRt.out, HAP.out, .inl ⟨rfl, huq.symm, ?_, HQ.out.2.2, hur.symm, ?_, HR.out.2.2, ?_, ?_⟩⟩, HD.out.2⟩
          · rw [HQZ.out, zz_abs]; exact HQ.out.2.1
          · rw [HRZ.out, zz_abs]; exact HR.out.2.1
          · rw [HQZ.out, zz_abs, ← HQ.out.2.1]; have := HBIG.out; omega
          · rw [HRZ.out, zz_abs, ← HR.out.2.1]; have := HBIG.out; omega
      · obtain ⟨w6, hw6, hb6, hx6⟩ := enter1 w5 (.cells #[.int .u64 1] 64)
        have hblk : Blk w6 w5.heap.size [1] := hx6
        have A6 := Ans.of_blk (base := w5.heap.size) (zs := [1]) (Nat.le_refl _) hblk (by simp) (by simp) (by simp) (by intro z hz; simp at hz; omega)
        have hSM := wsum_any (.slice aq lq kq) (.slice (some ⟨w5.heap.size, 0, none⟩) 1 1) rq [1] w6 ((HQ5.out.1.arg HLQ.out.1).below hb6) (A6.arg (by simp)) (by have := HLN.out.1; omega) (by simp)
        rw [HQ5.out.2.1, show val [1] = 1 from by simp [val]] at hSM
        have HB6 := hide hb6
        clear hb6 hx6 hblk A6
        go_wp2_with fail
        refine hSM.mono ?_
        rintro e w7 ⟨⟨v7, r7, rfl, A7, e7, t7⟩, hb7⟩
        obtain ⟨a7, k7, rfl⟩ := A7.shape
        have hb67 := HB6.out.trans (hb7.mono HB6.out.size)
        have HR2' := hide (block_upW hb67 HR2.out)
        have HR3' := hide (block_upW hb67 HR3.out)
        have HWB := hide (HWB5.out.trans (hb67.mono HWB5.out.size))
        have hl7 : r7.length ≤ rq.length + 1 := by
          rw [← t7]; refine tr_len_lt r7 _ ?_
          rw [e7]
          have h1 := val_lt HQ5.out.1.limbs
          rw [HQ5.out.2.1] at h1
          rw [Nat.pow_succ]
          have h0 := W_pos rq.length
          generalize 18446744073709551616 ^ rq.length = P9 at *
          omega
        have hlqx := HLN.out.1
        obtain ⟨l7, hl7e⟩ : ∃ l7, r7.length = l7 := ⟨_, rfl⟩
        rw [hl7e] at A7 ⊢
        have hAP7 := apart_of2 (v2 := .slice a3 l3 k3) (fun g hg => Nat.lt_of_lt_of_le (HL5.out.1.own.lt g hg).2 HB6.out.size) A7
        have hs57 : w.heap.size ≤ w6.heap.size := Nat.le_trans HWB5.out.size HB6.out.size
        have HQ := hide (And.intro (A7.base hs57) (And.intro e7 t7))
        have HR := hide (And.intro (HL5.out.1.below hb67) HL5.out.2)
        have hq9 := HQZ.out
        have hr9 := HRZ.out
        rw [decide_eq_true hr0] at hq9 hr9
        simp only [Bool.true_and, if_true] at hq9 hr9
        clear HQ5 HR5 HAP HLQ HR2 HR3 HWB5 HQZ HRZ
        have HAP := hide hAP7
        have HLQ := hide (And.intro (show r7.length ≤ 1125899906842624 by omega) HLN3.out)
        have HR2 := HR2'
        have HR3 := HR3'
        have HQZ := hide hq9
        have HRZ := hide hr9
        clear hq9 hr9 HL5 hb7 hb67 A7 e7 t7 hSM HB6 hs57 HR2' HR3' hw6
        obtain ⟨wv, hwv, hbv, hxv⟩ := enter1 w7 (.cells #[.slice a7 l7 k7, .slice a3 l3 k3] 25)
        have hAB := wanyBig_two w7.heap.size (.slice a7 l7 k7) (.slice a3 l3 k3) r7 r3 wv hxv ((HQ.out.1.arg HLQ.out.1).below hbv) ((HR.out.1.arg HLQ.out.2).below hbv)
        have HR2v := hide (block_upW hbv HR2.out)
        have HR3v := hide (block_upW hbv HR3.out)
        have HBV := hide (HWB.out.trans (hbv.mono HWB.out.size))
        have HQv := hide (HQ.out.1.below hbv)
        have HRv := hide (HR.out.1.below hbv)
        clear hbv hxv HR2 HR3
        by_cases hbig : 67108864 < blen (val r7) ∨ 67108864 < blen (val r3)
        · rw [decide_eq_true hbig] at hAB
          have HBIG := hide hbig
          clear hbig
          go_wp2_with fail
          refine hAB.mono ?_
          rintro e wn ⟨rfl, hw⟩; rw [hw]; clear hw wn hAB
          have HR2 := HR2v
          have HR3 := HR3v
          have HBE := HBV
          have hf2 := duof HR2.out
          have hf3 := duof HR3.out
          obtain ⟨m0, m1⟩ := duo HR2.out
          obtain ⟨m2, m3⟩ := duo HR3.out
          go_wp2
          have hq4 := quad (base := w.heap.size) (u0 := .bool false) (u1 := (.slice none 0 0)) (u2 := .bool false) (u3 := (.slice none 0 0)) HR2.out HR3.out
          have HD := hide (And.intro hq4.2.2 (quad_below HBE.out (g := w.heap.size + 2) (u0 := .bool false) (u1 := (.slice none 0 0)) (u2 := .bool false) (u3 := (.slice none 0 0)) (by omega)))
          obtain ⟨R5, R6, _⟩ := hq4
          generalize (((wv.setCell ⟨w.heap.size + 2, 0, none⟩ (.bool false)).setCell ⟨w.heap.size + 2, 1, none⟩ ((.slice none 0 0))).setCell ⟨w.heap.size + 2 + 1, 0, none⟩ (.bool false)).setCell ⟨w.heap.size + 2 + 1, 1, none⟩ ((.slice none 0 0)) = w5 at *
          obtain ⟨q0, q1⟩ := duo R5
          obtain ⟨q2, q3⟩ := duo R6
          refine bodyPost_ret (v := .tuple #[.agg #[.bool false, (.slice none 0 0)], .agg #[.bool false, (.slice none 0 0)], .int .i64 3]) (by simp [results, Tryz.results66, go_sem, q0, q1, q2, q3]) rfl ?_
          refine ⟨⟨_, _, _, _, _, _, _, _, 3, rfl, [], [], Ans.nil _ _, Ans.nil _ _, .inl rfl, .inr ⟨rfl, rfl, rfl, rfl, rfl, rfl, rfl, ?_⟩⟩, HD.out.2⟩
          rw [HQZ.out, HRZ.out, zz_abs, zz_abs, ← HQ.out.2.1, ← HR.out.2.1]
          exact HBIG.out
        · rw [decide_eq_false hbig] at hAB
          have HBIG := hide hbig
          clear hbig
          go_wp2_with fail
          refine hAB.mono ?_
          rintro e wn ⟨rfl, hw⟩; rw [hw]; clear hw wn hAB
          have hS1 := wsigned_any ap (.slice a7 l7 k7) r7 _ wv HQv.out
          rw [zz_sign ap HQ.out.2.2 HQ.out.2.1, ← HQZ.out] at hS1
          go_wp2_with fail
          refine hS1.mono ?_
          rintro e ws ⟨rfl, hbs⟩
          have hS2 := wsigned_any (!b1) (.slice a3 l3 k3) r3 _ ws (HRv.out.below hbs)
          rw [zz_sign (!b1) HR.out.2.2 HR.out.2.1, ← HRZ.out] at hS2
          have HBS := hide hbs
          clear hbs hS1
          go_wp2_with fail
          refine hS2.mono ?_
          rintro e wt ⟨rfl, hbt⟩
          have hbst := HBS.out.trans (hbt.mono HBS.out.size)
          have HR2 := hide (block_upW hbst HR2v.out)
          have HR3 := hide (block_upW hbst HR3v.out)
          have HBE := hide (HBV.out.trans (hbst.mono HBV.out.size))
          have HQt := hide (HQv.out.below hbst)
          have HRt := hide (HRv.out.below hbst)
          have hf2 := duof HR2.out
          have hf3 := duof HR3.out
          obtain ⟨m0, m1⟩ := duo HR2.out
          obtain ⟨m2, m3⟩ := duo HR3.out
          clear hbt hbst hS2 HR2v HR3v hwv
          obtain ⟨uq, huq⟩ : ∃ ub, decide (qz < 0) = ub := ⟨_, rfl⟩
          obtain ⟨ur, hur⟩ : ∃ ub, decide (rz < 0) = ub := ⟨_, rfl⟩
          rw [huq, hur]
          go_wp2
          have hq4 := quad (base := w.heap.size) (u0 := .bool uq) (u1 := (.slice a7 l7 k7)) (u2 := .bool ur) (u3 := (.slice a3 l3 k3)) HR2.out HR3.out
          have HD := hide (And.intro hq4.2.2 (quad_below HBE.out (g := w.heap.size + 2) (u0 := .bool uq) (u1 := (.slice a7 l7 k7)) (u2 := .bool ur) (u3 := (.slice a3 l3 k3)) (by omega)))
          obtain ⟨R5, R6, _⟩ := hq4
          generalize (((wt.setCell ⟨w.heap.size + 2, 0, none⟩ (.bool uq)).setCell ⟨w.heap.size + 2, 1, none⟩ ((.slice a7 l7 k7))).setCell ⟨w.heap.size + 2 + 1, 0, none⟩ (.bool ur)).setCell ⟨w.heap.size + 2 + 1, 1, none⟩ ((.slice a3 l3 k3)) = w5 at *
          obtain ⟨q0, q1⟩ := duo R5
          obtain ⟨q2, q3⟩ := duo R6
          refine bodyPost_ret (v := .tuple #[.agg #[.bool uq, (.slice a7 l7 k7)], .agg #[.bool ur, (.slice a3 l3 k3)], .int .i64 0]) (by simp [results, Tryz.results66, go_sem, q0, q1, q2, q3]) rfl ?_
          refine ⟨⟨_, _, _, _, _, _, _, _, 0, rfl, r7, r3, HD.out.1 _ _ HQt.out, HD.out.1 _ _ HRt.out, HAP.out, .inl ⟨rfl, huq.symm, ?_, HQ.out.2.2, hur.symm, ?_, HR.out.2.2, ?_, ?_⟩⟩, HD.out.2⟩
          · rw [HQZ.out, zz_abs]; exact HQ.out.2.1
          · rw [HRZ.out, zz_abs]; exact HR.out.2.1
          · rw [HQZ.out, zz_abs, ← HQ.out.2.1]; have := HBIG.out; omega
          · rw [HRZ.out, zz_abs, ← HR.out.2.1]; have := HBIG.out; omega
    · have i3 : ¬ (0 : Int) < (lr : Int) := by omega
      have hr0 : val X % val Y = 0 := by omega
      have HQ := HQA2
      have HR := HRA2
      have hfz : (fu && decide (0 < val X % val Y)) = false := by rw [hr0]; simp
      have hq9 := HQZ.out
      have hr9 := HRZ.out
      rw [hfz] at hq9 hr9
      simp only [Bool.false_eq_true, if_false, Nat.add_zero] at hq9 hr9
      clear HQZ HRZ
      have HQZ := hide hq9
      have HRZ := hide hr9
      clear hq9 hr9 hfz HQA2 HRA2 hnz f2 f3 HK12 HB12
      obtain ⟨wv, hwv, hbv, hxv⟩ := enter1 wq (.cells #[.slice aq lq kq, .slice ar lr kr] 25)
      have hAB := wanyBig_two wq.heap.size (.slice aq lq kq) (.slice ar lr kr) rq rr wv hxv ((HQ.out.1.arg HLQ.out.1).below hbv) ((HR.out.1.arg HLQ.out.2).below hbv)
      have HR2v := hide (block_upW hbv HR2.out)
      have HR3v := hide (block_upW hbv HR3.out)
      have HBV := hide (HWB.out.trans (hbv.mono HWB.out.size))
      have HQv := hide (HQ.out.1.below hbv)
      have HRv := hide (HR.out.1.below hbv)
      clear hbv hxv HR2 HR3
      by_cases hbig : 67108864 < blen (val rq) ∨ 67108864 < blen (val rr)
      · rw [decide_eq_true hbig] at hAB
        have HBIG := hide hbig
        clear hbig
        go_wp2_with fail
        refine hAB.mono ?_
        rintro e wn ⟨rfl, hw⟩; rw [hw]; clear hw wn hAB
        have HR2 := HR2v
        have HR3 := HR3v
        have HBE := HBV
        have hf2 := duof HR2.out
        have hf3 := duof HR3.out
        obtain ⟨m0, m1⟩ := duo HR2.out
        obtain ⟨m2, m3⟩ := duo HR3.out
        go_wp2
        have hq4 := quad (base := w.heap.size) (u0 := .bool false) (u1 := (.slice none 0 0)) (u2 := .bool false) (u3 := (.slice none 0 0)) HR2.out HR3.out
        have HD := hide (And.intro hq4.2.2 (quad_below HBE.out (g := w.heap.size + 2) (u0 := .bool false) (u1 := (.slice none 0 0)) (u2 := .bool false) (u3 := (.slice none 0 0)) (by omega)))
        obtain ⟨R5, R6, _⟩ := hq4
        generalize (((wv.setCell ⟨w.heap.size + 2, 0, none⟩ (.bool false)).setCell ⟨w.heap.size + 2, 1, none⟩ ((.slice none 0 0))).setCell ⟨w.heap.size + 2 + 1, 0, none⟩ (.bool false)).setCell ⟨w.heap.size + 2 + 1, 1, none⟩ ((.slice none 0 0)) = w5 at *
        obtain ⟨q0, q1⟩ := duo R5
        obtain ⟨q2, q3⟩ := duo R6
        refine bodyPost_ret (v := .tuple #[.agg #[.bool false, (.slice none 0 0)], .agg #[.bool false, (.slice none 0 0)], .int .i64 3]) (by simp [results, Tryz.results66, go_sem, q0, q1, q2, q3]) rfl ?_
        refine ⟨⟨_, _, _, _, _, _, _, _, 3, rfl, [], [], Ans.nil _ _, Ans.nil _ _, .inl rfl, .inr ⟨rfl, rfl, rfl, rfl, rfl, rfl, rfl, ?_⟩⟩, HD.out.2⟩
        rw [HQZ.out, HRZ.out, zz_abs, zz_abs, ← HQ.out.2.1, ← HR.out.2.1]
        exact HBIG.out
      · rw [decide_eq_false hbig] at hAB
        have HBIG := hide hbig
        clear hbig
        go_wp2_with fail
        refine hAB.mono ?_
        rintro e wn ⟨rfl, hw⟩; rw [hw]; clear hw wn hAB
        have hS1 := wsigned_any ap (.slice aq lq kq) rq _ wv HQv.out
        rw [zz_sign ap HQ.out.2.2 HQ.out.2.1, ← HQZ.out] at hS1
        go_wp2_with fail
        refine hS1.mono ?_
        rintro e ws ⟨rfl, hbs⟩
        have hS2 := wsigned_any b1 (.slice ar lr kr) rr _ ws (HRv.out.below hbs)
        rw [zz_sign b1 HR.out.2.2 HR.out.2.1, ← HRZ.out] at hS2
        have HBS := hide hbs
        clear hbs hS1
        go_wp2_with fail
        refine hS2.mono ?_
        rintro e wt ⟨rfl, hbt⟩
        have hbst := HBS.out.trans (hbt.mono HBS.out.size)
        have HR2 := hide (block_upW hbst HR2v.out)
        have HR3 := hide (block_upW hbst HR3v.out)
        have HBE := hide (HBV.out.trans (hbst.mono HBV.out.size))
        have HQt := hide (HQv.out.below hbst)
        have HRt := hide (HRv.out.below hbst)
        have hf2 := duof HR2.out
        have hf3 := duof HR3.out
        obtain ⟨m0, m1⟩ := duo HR2.out
        obtain ⟨m2, m3⟩ := duo HR3.out
        clear hbt hbst hS2 HR2v HR3v hwv
        obtain ⟨uq, huq⟩ : ∃ ub, decide (qz < 0) = ub := ⟨_, rfl⟩
        obtain ⟨ur, hur⟩ : ∃ ub, decide (rz < 0) = ub := ⟨_, rfl⟩
        rw [huq, hur]
        go_wp2
        have hq4 := quad (base := w.heap.size) (u0 := .bool uq) (u1 := (.slice aq lq kq)) (u2 := .bool ur) (u3 := (.slice ar lr kr)) HR2.out HR3.out
        have HD := hide (And.intro hq4.2.2 (quad_below HBE.out (g := w.heap.size + 2) (u0 := .bool uq) (u1 := (.slice aq lq kq)) (u2 := .bool ur) (u3 := (.slice ar lr kr)) (by omega)))
        obtain ⟨R5, R6, _⟩ := hq4
        generalize (((wt.setCell ⟨w.heap.size + 2, 0, none⟩ (.bool uq)).setCell ⟨w.heap.size + 2, 1, none⟩ ((.slice aq lq kq))).setCell ⟨w.heap.size + 2 + 1, 0, none⟩ (.bool ur)).setCell ⟨w.heap.size + 2 + 1, 1, none⟩ ((.slice ar lr kr)) = w5 at *
        obtain ⟨q0, q1⟩ := duo R5
        obtain ⟨q2, q3⟩ := duo R6
        refine bodyPost_ret (v := .tuple #[.agg #[.bool uq, (.slice aq lq kq)], .agg #[.bool ur, (.slice ar lr kr)], .int .i64 0]) (by simp [results, Tryz.results66, go_sem, q0, q1, q2, q3]) rfl ?_
        refine ⟨⟨_, _, _, _, _, _, _, _, 0, rfl, rq, rr, HD.out.1 _ _ HQt.out, HD.out.1 _ _ HRt.out, HAP.out, .inl ⟨rfl, huq.symm, ?_, HQ.out.2.2, hur.symm, ?_, HR.out.2.2, ?_, ?_⟩⟩, HD.out.2⟩
        · rw [HQZ.out, zz_abs]; exact HQ.out.2.1
        · rw [HRZ.out, zz_abs]; exact HR.out.2.1
        · rw [HQZ.out, zz_abs, ← HQ.out.2.1]; have := HBIG.out; omega
        · rw [HRZ.out, zz_abs, ← HR.out.2.1]; have := HBIG.out; omega

end Go.Proofs.YtfgcngndiblpmaaGreatDoor

/- Package whole: Quo. -/
namespace Go.Proofs.YtfgcngndiblpmaaGreatDoor
open Go.RowKit
open Lm
attribute [local go_sem ↓] Go.wp_at_zero Go.wp_at_succ

set_option maxHeartbeats 1000000 in
theorem wquo_any (b1 : Bool) (v : Value) (X : List Nat) (b2 : Bool) (u : Value) (Y : List Nat) (ap fu : Bool) (qz rz : Int) (w : World) (hA : Arg w v X) (hB : Arg w u Y) (hT : Tab w) (hx : X.length ≤ 17592186043904) (hy : Y.length ≤ 17592186043904) (hy0 : 0 < val Y)
    (hap : (b1 != b2) = ap) (hfu : false = fu)
    (hqz : qz = zz ap (val X / val Y + if fu && decide (0 < val X % val Y) then 1 else 0)) (hrz : rz = zz (if fu && decide (0 < val X % val Y) then !b1 else b1) (if fu && decide (0 < val X % val Y) then val Y - val X % val Y else val X % val Y)) :
    Calls Tryz.prog 16 #[.agg #[.bool b1, v], .agg #[.bool b2, u]] w (WDivDone w qz rz) := by
  obtain ⟨a, n, rfl, _, _, _⟩ := hA.form
  obtain ⟨a9, n9, rfl, _, _, _⟩ := hB.form
  obtain ⟨w0, hw0, hb0, h0, h1, h2, h3⟩ := enter4 w (.cells #[.bool b1, .slice a X.length n] 27) (.cells #[.bool b2, .slice a9 Y.length n9] 27) (.cells #[.bool false, .slice none 0 0] 27) (.cells #[.bool false, .slice none 0 0] 27)
  obtain ⟨k0, k1⟩ := duo h0
  obtain ⟨k2, k3⟩ := duo h1
  have HM := wdivide_1 b1 _ X b2 _ Y ap fu qz rz w0 (hA.below hb0) (hB.below hb0) (hT.below hb0) hx hy hy0 hap hfu hqz hrz
  have HB0 := hide hb0
  have H2 := hide h2
  have H3 := hide h3
  clear hA hB hT hb0 h0 h1 h2 h3 hqz hrz hap hfu
  go_enter Tryz.func16, Tryz.ntmps16
  go_wp2_with fail
  refine HM.mono ?_
  rintro e w1 ⟨⟨b3, a3, n3, m3, b4, a4, n4, m4, c, rfl, rs1, rs2, A1, A2, hap, hcase⟩, hb1⟩
  have HR2 := hide (block_upW hb1 H2.out)
  have HR3 := hide (block_upW hb1 H3.out)
  have HBE := hide (HB0.out.trans (hb1.mono HB0.out.size))
  have HC := hide (And.intro (A1.base HB0.out.size) (And.intro (A2.base HB0.out.size) (And.intro hap hcase)))
  have hf2 := duof HR2.out
  have hf3 := duof HR3.out
  obtain ⟨m0, m1⟩ := duo HR2.out
  obtain ⟨m2, m3'⟩ := duo HR3.out
  clear A1 A2 hap hcase hb1 HM hw0 k0 k1 k2 k3 H2 H3
  go_wp2
  have hq4 := quad (base := w.heap.size) (u0 := .bool b3) (u1 := .slice a3 n3 m3) (u2 := .bool b4) (u3 := .slice a4 n4 m4) HR2.out HR3.out
  have HD := hide (And.intro hq4.2.2 (quad_below HBE.out (g := w.heap.size + 2) (u0 := .bool b3) (u1 := .slice a3 n3 m3) (u2 := .bool b4) (u3 := .slice a4 n4 m4) (by omega)))
  obtain ⟨R5, R6, _⟩ := hq4
  generalize (((w1.setCell ⟨w.heap.size + 2, 0, none⟩ (.bool b3)).setCell ⟨w.heap.size + 2, 1, none⟩ (.slice a3 n3 m3)).setCell ⟨w.heap.size + 2 + 1, 0, none⟩ (.bool b4)).setCell ⟨w.heap.size + 2 + 1, 1, none⟩ (.slice a4 n4 m4) = w5 at *
  obtain ⟨q0, q1⟩ := duo R5
  obtain ⟨q2, q3⟩ := duo R6
  refine bodyPost_ret (v := .tuple #[.agg #[.bool b3, .slice a3 n3 m3], .agg #[.bool b4, .slice a4 n4 m4], .int .i64 c]) (by simp [results, Tryz.results16, go_sem, q0, q1, q2, q3]) rfl ?_
  exact ⟨⟨_, _, _, _, _, _, _, _, _, rfl, rs1, rs2, HD.out.1 _ _ HC.out.1, HD.out.1 _ _ HC.out.2.1, HC.out.2.2⟩, HD.out.2⟩

end Go.Proofs.YtfgcngndiblpmaaGreatDoor

/- Package whole: Ceil. -/
namespace Go.Proofs.YtfgcngndiblpmaaGreatDoor
open Go.RowKit
open Lm
attribute [local go_sem ↓] Go.wp_at_zero Go.wp_at_succ

set_option maxHeartbeats 1000000 in
theorem wceil_any (b1 : Bool) (v : Value) (X : List Nat) (b2 : Bool) (u : Value) (Y : List Nat) (ap fu : Bool) (qz rz : Int) (w : World) (hA : Arg w v X) (hB : Arg w u Y) (hT : Tab w) (hx : X.length ≤ 17592186043904) (hy : Y.length ≤ 17592186043904) (hy0 : 0 < val Y)
    (hap : (b1 != b2) = ap) (hfu : (!ap) = fu)
    (hqz : qz = zz ap (val X / val Y + if fu && decide (0 < val X % val Y) then 1 else 0)) (hrz : rz = zz (if fu && decide (0 < val X % val Y) then !b1 else b1) (if fu && decide (0 < val X % val Y) then val Y - val X % val Y else val X % val Y)) :
    Calls Tryz.prog 18 #[.agg #[.bool b1, v], .agg #[.bool b2, u]] w (WDivDone w qz rz) := by
  obtain ⟨a, n, rfl, _, _, _⟩ := hA.form
  obtain ⟨a9, n9, rfl, _, _, _⟩ := hB.form
  obtain ⟨w0, hw0, hb0, h0, h1, h2, h3⟩ := enter4 w (.cells #[.bool b1, .slice a X.length n] 27) (.cells #[.bool b2, .slice a9 Y.length n9] 27) (.cells #[.bool false, .slice none 0 0] 27) (.cells #[.bool false, .slice none 0 0] 27)
  obtain ⟨k0, k1⟩ := duo h0
  obtain ⟨k2, k3⟩ := duo h1
  have HM := wdivide_3 b1 _ X b2 _ Y ap fu qz rz w0 (hA.below hb0) (hB.below hb0) (hT.below hb0) hx hy hy0 hap hfu hqz hrz
  have HB0 := hide hb0
  have H2 := hide h2
  have H3 := hide h3
  clear hA hB hT hb0 h0 h1 h2 h3 hqz hrz hap hfu
  go_enter Tryz.func18, Tryz.ntmps18
  go_wp2_with fail
  refine HM.mono ?_
  rintro e w1 ⟨⟨b3, a3, n3, m3, b4, a4, n4, m4, c, rfl, rs1, rs2, A1, A2, hap, hcase⟩, hb1⟩
  have HR2 := hide (block_upW hb1 H2.out)
  have HR3 := hide (block_upW hb1 H3.out)
  have HBE := hide (HB0.out.trans (hb1.mono HB0.out.size))
  have HC := hide (And.intro (A1.base HB0.out.size) (And.intro (A2.base HB0.out.size) (And.intro hap hcase)))
  have hf2 := duof HR2.out
  have hf3 := duof HR3.out
  obtain ⟨m0, m1⟩ := duo HR2.out
  obtain ⟨m2, m3'⟩ := duo HR3.out
  clear A1 A2 hap hcase hb1 HM hw0 k0 k1 k2 k3 H2 H3
  go_wp2
  have hq4 := quad (base := w.heap.size) (u0 := .bool b3) (u1 := .slice a3 n3 m3) (u2 := .bool b4) (u3 := .slice a4 n4 m4) HR2.out HR3.out
  have HD := hide (And.intro hq4.2.2 (quad_below HBE.out (g := w.heap.size + 2) (u0 := .bool b3) (u1 := .slice a3 n3 m3) (u2 := .bool b4) (u3 := .slice a4 n4 m4) (by omega)))
  obtain ⟨R5, R6, _⟩ := hq4
  generalize (((w1.setCell ⟨w.heap.size + 2, 0, none⟩ (.bool b3)).setCell ⟨w.heap.size + 2, 1, none⟩ (.slice a3 n3 m3)).setCell ⟨w.heap.size + 2 + 1, 0, none⟩ (.bool b4)).setCell ⟨w.heap.size + 2 + 1, 1, none⟩ (.slice a4 n4 m4) = w5 at *
  obtain ⟨q0, q1⟩ := duo R5
  obtain ⟨q2, q3⟩ := duo R6
  refine bodyPost_ret (v := .tuple #[.agg #[.bool b3, .slice a3 n3 m3], .agg #[.bool b4, .slice a4 n4 m4], .int .i64 c]) (by simp [results, Tryz.results18, go_sem, q0, q1, q2, q3]) rfl ?_
  exact ⟨⟨_, _, _, _, _, _, _, _, _, rfl, rs1, rs2, HD.out.1 _ _ HC.out.1, HD.out.1 _ _ HC.out.2.1, HC.out.2.2⟩, HD.out.2⟩

end Go.Proofs.YtfgcngndiblpmaaGreatDoor

/- Package whole: Near. -/
namespace Go.Proofs.YtfgcngndiblpmaaGreatDoor
open Go.RowKit
open Lm
attribute [local go_sem ↓] Go.wp_at_zero Go.wp_at_succ

set_option maxHeartbeats 1000000 in
theorem wnear_any (b1 : Bool) (v : Value) (X : List Nat) (b2 : Bool) (u : Value) (Y : List Nat) (ap fu : Bool) (qz rz : Int) (w : World) (hA : Arg w v X) (hB : Arg w u Y) (hT : Tab w) (hx : X.length ≤ 17592186043904) (hy : Y.length ≤ 17592186043904) (hy0 : 0 < val Y)
    (hap : (b1 != b2) = ap) (hfu : nearB (val X / val Y) (val X % val Y) (val Y - val X % val Y) = fu)
    (hqz : qz = zz ap (val X / val Y + if fu && decide (0 < val X % val Y) then 1 else 0)) (hrz : rz = zz (if fu && decide (0 < val X % val Y) then !b1 else b1) (if fu && decide (0 < val X % val Y) then val Y - val X % val Y else val X % val Y)) :
    Calls Tryz.prog 19 #[.agg #[.bool b1, v], .agg #[.bool b2, u]] w (WDivDone w qz rz) := by
  obtain ⟨a, n, rfl, _, _, _⟩ := hA.form
  obtain ⟨a9, n9, rfl, _, _, _⟩ := hB.form
  obtain ⟨w0, hw0, hb0, h0, h1, h2, h3⟩ := enter4 w (.cells #[.bool b1, .slice a X.length n] 27) (.cells #[.bool b2, .slice a9 Y.length n9] 27) (.cells #[.bool false, .slice none 0 0] 27) (.cells #[.bool false, .slice none 0 0] 27)
  obtain ⟨k0, k1⟩ := duo h0
  obtain ⟨k2, k3⟩ := duo h1
  have HM := wdivide_4 b1 _ X b2 _ Y ap fu qz rz w0 (hA.below hb0) (hB.below hb0) (hT.below hb0) hx hy hy0 hap hfu hqz hrz
  have HB0 := hide hb0
  have H2 := hide h2
  have H3 := hide h3
  clear hA hB hT hb0 h0 h1 h2 h3 hqz hrz hap hfu
  go_enter Tryz.func19, Tryz.ntmps19
  go_wp2_with fail
  refine HM.mono ?_
  rintro e w1 ⟨⟨b3, a3, n3, m3, b4, a4, n4, m4, c, rfl, rs1, rs2, A1, A2, hap, hcase⟩, hb1⟩
  have HR2 := hide (block_upW hb1 H2.out)
  have HR3 := hide (block_upW hb1 H3.out)
  have HBE := hide (HB0.out.trans (hb1.mono HB0.out.size))
  have HC := hide (And.intro (A1.base HB0.out.size) (And.intro (A2.base HB0.out.size) (And.intro hap hcase)))
  have hf2 := duof HR2.out
  have hf3 := duof HR3.out
  obtain ⟨m0, m1⟩ := duo HR2.out
  obtain ⟨m2, m3'⟩ := duo HR3.out
  clear A1 A2 hap hcase hb1 HM hw0 k0 k1 k2 k3 H2 H3
  go_wp2
  have hq4 := quad (base := w.heap.size) (u0 := .bool b3) (u1 := .slice a3 n3 m3) (u2 := .bool b4) (u3 := .slice a4 n4 m4) HR2.out HR3.out
  have HD := hide (And.intro hq4.2.2 (quad_below HBE.out (g := w.heap.size + 2) (u0 := .bool b3) (u1 := .slice a3 n3 m3) (u2 := .bool b4) (u3 := .slice a4 n4 m4) (by omega)))
  obtain ⟨R5, R6, _⟩ := hq4
  generalize (((w1.setCell ⟨w.heap.size + 2, 0, none⟩ (.bool b3)).setCell ⟨w.heap.size + 2, 1, none⟩ (.slice a3 n3 m3)).setCell ⟨w.heap.size + 2 + 1, 0, none⟩ (.bool b4)).setCell ⟨w.heap.size + 2 + 1, 1, none⟩ (.slice a4 n4 m4) = w5 at *
  obtain ⟨q0, q1⟩ := duo R5
  obtain ⟨q2, q3⟩ := duo R6
  refine bodyPost_ret (v := .tuple #[.agg #[.bool b3, .slice a3 n3 m3], .agg #[.bool b4, .slice a4 n4 m4], .int .i64 c]) (by simp [results, Tryz.results19, go_sem, q0, q1, q2, q3]) rfl ?_
  exact ⟨⟨_, _, _, _, _, _, _, _, _, rfl, rs1, rs2, HD.out.1 _ _ HC.out.1, HD.out.1 _ _ HC.out.2.1, HC.out.2.2⟩, HD.out.2⟩

end Go.Proofs.YtfgcngndiblpmaaGreatDoor

/- Package whole: Euclid. -/
namespace Go.Proofs.YtfgcngndiblpmaaGreatDoor
open Go.RowKit
open Lm
attribute [local go_sem ↓] Go.wp_at_zero Go.wp_at_succ

set_option maxHeartbeats 1000000 in
theorem weuclid_any (b1 : Bool) (v : Value) (X : List Nat) (b2 : Bool) (u : Value) (Y : List Nat) (ap fu : Bool) (qz rz : Int) (w : World) (hA : Arg w v X) (hB : Arg w u Y) (hT : Tab w) (hx : X.length ≤ 17592186043904) (hy : Y.length ≤ 17592186043904) (hy0 : 0 < val Y)
    (hap : (b1 != b2) = ap) (hfu : b1 = fu)
    (hqz : qz = zz ap (val X / val Y + if fu && decide (0 < val X % val Y) then 1 else 0)) (hrz : rz = zz (if fu && decide (0 < val X % val Y) then !b1 else b1) (if fu && decide (0 < val X % val Y) then val Y - val X % val Y else val X % val Y)) :
    Calls Tryz.prog 20 #[.agg #[.bool b1, v], .agg #[.bool b2, u]] w (WDivDone w qz rz) := by
  obtain ⟨a, n, rfl, _, _, _⟩ := hA.form
  obtain ⟨a9, n9, rfl, _, _, _⟩ := hB.form
  obtain ⟨w0, hw0, hb0, h0, h1, h2, h3⟩ := enter4 w (.cells #[.bool b1, .slice a X.length n] 27) (.cells #[.bool b2, .slice a9 Y.length n9] 27) (.cells #[.bool false, .slice none 0 0] 27) (.cells #[.bool false, .slice none 0 0] 27)
  obtain ⟨k0, k1⟩ := duo h0
  obtain ⟨k2, k3⟩ := duo h1
  have HM := wdivide_5 b1 _ X b2 _ Y ap fu qz rz w0 (hA.below hb0) (hB.below hb0) (hT.below hb0) hx hy hy0 hap hfu hqz hrz
  have HB0 := hide hb0
  have H2 := hide h2
  have H3 := hide h3
  clear hA hB hT hb0 h0 h1 h2 h3 hqz hrz hap hfu
  go_enter Tryz.func20, Tryz.ntmps20
  go_wp2_with fail
  refine HM.mono ?_
  rintro e w1 ⟨⟨b3, a3, n3, m3, b4, a4, n4, m4, c, rfl, rs1, rs2, A1, A2, hap, hcase⟩, hb1⟩
  have HR2 := hide (block_upW hb1 H2.out)
  have HR3 := hide (block_upW hb1 H3.out)
  have HBE := hide (HB0.out.trans (hb1.mono HB0.out.size))
  have HC := hide (And.intro (A1.base HB0.out.size) (And.intro (A2.base HB0.out.size) (And.intro hap hcase)))
  have hf2 := duof HR2.out
  have hf3 := duof HR3.out
  obtain ⟨m0, m1⟩ := duo HR2.out
  obtain ⟨m2, m3'⟩ := duo HR3.out
  clear A1 A2 hap hcase hb1 HM hw0 k0 k1 k2 k3 H2 H3
  go_wp2
  have hq4 := quad (base := w.heap.size) (u0 := .bool b3) (u1 := .slice a3 n3 m3) (u2 := .bool b4) (u3 := .slice a4 n4 m4) HR2.out HR3.out
  have HD := hide (And.intro hq4.2.2 (quad_below HBE.out (g := w.heap.size + 2) (u0 := .bool b3) (u1 := .slice a3 n3 m3) (u2 := .bool b4) (u3 := .slice a4 n4 m4) (by omega)))
  obtain ⟨R5, R6, _⟩ := hq4
  generalize (((w1.setCell ⟨w.heap.size + 2, 0, none⟩ (.bool b3)).setCell ⟨w.heap.size + 2, 1, none⟩ (.slice a3 n3 m3)).setCell ⟨w.heap.size + 2 + 1, 0, none⟩ (.bool b4)).setCell ⟨w.heap.size + 2 + 1, 1, none⟩ (.slice a4 n4 m4) = w5 at *
  obtain ⟨q0, q1⟩ := duo R5
  obtain ⟨q2, q3⟩ := duo R6
  refine bodyPost_ret (v := .tuple #[.agg #[.bool b3, .slice a3 n3 m3], .agg #[.bool b4, .slice a4 n4 m4], .int .i64 c]) (by simp [results, Tryz.results20, go_sem, q0, q1, q2, q3]) rfl ?_
  exact ⟨⟨_, _, _, _, _, _, _, _, _, rfl, rs1, rs2, HD.out.1 _ _ HC.out.1, HD.out.1 _ _ HC.out.2.1, HC.out.2.2⟩, HD.out.2⟩

end Go.Proofs.YtfgcngndiblpmaaGreatDoor
