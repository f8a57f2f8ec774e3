/- What the laws of whole numbers use: lent, all, same, zero; whole.Compare. -/
import Derived.Test.YtfgcngndiblpmaaGreatDoorQ3
import Derived.Test.YtfgcngndiblpmaaGreatDoorQB
import Derived.Test.YtfgcngndiblpmaaGreatDoorQJ
namespace Go.Proofs.YtfgcngndiblpmaaGreatDoor
open Go.RowKit
open Lm
attribute [local go_sem ↓] Go.wp_at_zero Go.wp_at_succ

set_option maxHeartbeats 1000000 in
theorem wlent_any (b : Bool) (v : Value) (X : List Nat) (w : World) (hA : Arg w v X) (hf : X.length ≤ 35184372088000) :
    Calls Tryz.prog 8 #[.agg #[.bool b, v]] w fun e w' => (∃ aw mw nw a m n, e = .returned (.tuple #[.slice aw mw nw, .agg #[.bool b, .slice a m n]]) ∧ Lent w' (.slice aw mw nw) X ∧ Arg w' (.slice a m n) X) ∧ Below w.heap.size w w' := by
  obtain ⟨a, n, rfl, _, _, _⟩ := hA.form
  obtain ⟨w0, hw0, hb0, h0, hx0⟩ := enter2 w (.cells #[.bool b, .slice a X.length n] 24) (.cells #[.bool false, .slice none 0 0] 27)
  obtain ⟨k0, k1⟩ := duo h0
  have HM := lend_ok _ X w0 (hA.below hb0) hf
  have HB0 := hide hb0
  have HX0 := hide hx0
  have HK0 := hide h0
  clear hA hb0 h0 hx0
  go_enter Tryz.func8, Tryz.ntmps8
  go_wp2_with fail
  refine HM.mono ?_
  rintro e w1 ⟨⟨vw, vp, rfl, hL, hP⟩, hb1⟩
  obtain ⟨gw, rfl, hgw⟩ := hL
  obtain ⟨a1, n1, rfl, _, _, _⟩ := hP.form
  have hbx := block_upW hb1 HX0.out
  have hf1 := duof hbx
  obtain ⟨l0, l1⟩ := duo hbx
  obtain ⟨j0, j1⟩ := duo (block_upW hb1 HK0.out)
  have HBX := hide hbx
  have HBE := hide (HB0.out.trans (hb1.mono HB0.out.size))
  have HP := hide hP
  have HG := hide hgw
  clear hbx hb1 HM hw0 k0 k1 hP hgw
  go_wp2
  go_region
  have R5 := duo_all HBX.out (a' := .bool b) (b' := .slice a1 X.length n1)
  have HD := hide (And.intro (HP.out.duo (p1 := b) (r1 := .slice a1 X.length n1) HBX.out) (below_duo HBE.out (g := w.heap.size + 1) (u0 := .bool b) (u1 := .slice a1 X.length n1) (by omega)))
  have hgl : gw ≠ w.heap.size + 1 := by
    rintro rfl
    have h := HG.out
    unfold Blk at h
    rw [HBX.out] at h
    simp at h
  have HLT : Hid (Blk ((w1.setCell ⟨w.heap.size + 1, 0, none⟩ (.bool b)).setCell ⟨w.heap.size + 1, 1, none⟩ (.slice a1 X.length n1)) gw (lent X)) := hide (by
    have h := HG.out
    unfold Blk at h ⊢
    rw [Below.heap_setCell _ _ _ _ hgl, Below.heap_setCell _ _ _ _ hgl]
    exact h)
  generalize (w1.setCell ⟨w.heap.size + 1, 0, none⟩ (.bool b)).setCell ⟨w.heap.size + 1, 1, none⟩ (.slice a1 X.length n1) = w5 at *
  obtain ⟨q0, q1⟩ := duo (show w5.drew.heap[w.heap.size + 1]? = _ from R5)
  go_wp2
  refine bodyPost_ret (v := .tuple #[.slice (some ⟨gw, 0, none⟩) (X.length + 4) (X.length + 4), .agg #[.bool b, .slice a1 X.length n1]]) (by simp [results, Tryz.results8, go_sem, q0, q1]) rfl ?_
  exact ⟨⟨_, _, _, _, _, _, rfl, ⟨gw, rfl, HLT.out⟩, HD.out.1.drew⟩, HD.out.2.drew⟩

set_option maxHeartbeats 1000000 in
theorem wzero_any (b : Bool) (v : Value) (X : List Nat) (w : World) (hA : Arg w v X) :
    Calls Tryz.prog 26 #[.agg #[.bool b, v]] w fun e w' => e = .returned (.bool (decide (val X = 0))) ∧ Below w.heap.size w w' := by
  obtain ⟨a, n, rfl, _, _, _⟩ := hA.form
  obtain ⟨w0, hw0, hb0, h0⟩ := enter1 w (.cells #[.bool b, .slice a X.length n] 27)
  obtain ⟨k0, k1⟩ := duo h0
  have HS := wsign_any b _ X w0 (hA.below hb0)
  have HB0 := hide hb0
  clear hA hb0 h0
  by_cases hx : val X = 0
  · have hs : sg b (val X) = 0 := by unfold sg; rw [if_pos hx]
    rw [hs] at HS
    rw [decide_eq_true hx]
    go_enter Tryz.func26, Tryz.ntmps26
    go_wp2_with fail
    refine HS.mono ?_
    rintro e w1 ⟨rfl, hb1⟩
    have HB1 := hide (HB0.out.trans (hb1.mono HB0.out.size))
    clear hb1 HS
    go_wp2
    go_ret
    exact ⟨rfl, HB1.out⟩
  · obtain ⟨s, hs, hs0⟩ : ∃ s : Int, sg b (val X) = s ∧ (s == 0) = false := ⟨_, rfl, by unfold sg; rw [if_neg hx]; cases b <;> decide⟩
    rw [hs] at HS
    rw [decide_eq_false hx]
    go_enter Tryz.func26, Tryz.ntmps26
    go_wp2_with fail
    refine HS.mono ?_
    rintro e w1 ⟨rfl, hb1⟩
    have HB1 := hide (HB0.out.trans (hb1.mono HB0.out.size))
    clear hb1 HS
    go_wp2
    go_ret
    exact ⟨rfl, HB1.out⟩

theorem cmpInt_any (x y : Int) (w : World) : Calls Tryz.prog 78 #[.int .i64 x, .int .i64 y] w fun e w' => e = .returned (.int .i64 (cmpZ x y)) ∧ w' = w := by
  unfold cmpZ
  by_cases h1 : x < y
  · rw [if_pos h1]
    go_enter Tryz.func78, Tryz.ntmps78
    go_wp2
    go_ret
    exact ⟨rfl, rfl⟩
  · rw [if_neg h1]
    by_cases h2 : y < x
    · rw [if_pos h2]
      go_enter Tryz.func78, Tryz.ntmps78
      go_wp2
      go_ret
      exact ⟨rfl, rfl⟩
    · rw [if_neg h2]
      go_enter Tryz.func78, Tryz.ntmps78
      go_wp2
      go_ret
      exact ⟨rfl, rfl⟩

end Go.Proofs.YtfgcngndiblpmaaGreatDoor

/- Package whole: Compare; the laws' same and all. -/
namespace Go.Proofs.YtfgcngndiblpmaaGreatDoor
open Go.RowKit
open Lm
attribute [local go_sem ↓] Go.wp_at_zero Go.wp_at_succ

theorem cmpZ_self (x : Int) : cmpZ x x = 0 := by unfold cmpZ; rw [if_neg (by omega), if_neg (by omega)]

theorem cmpZ_zero {x y : Int} : cmpZ x y = 0 ↔ x = y := by
  unfold cmpZ
  constructor
  · intro h
    split at h
    · cases h
    · split at h
      · cases h
      · omega
  · rintro rfl
    rw [if_neg (by omega), if_neg (by omega)]

theorem cmpZ_signs (x y : Int) (h : cmpZ x.sign y.sign ≠ 0) : cmpZ x.sign y.sign = cmpZ x y := by
  rcases Int.lt_trichotomy x 0 with hx | hx | hx <;> rcases Int.lt_trichotomy y 0 with hy | hy | hy
  all_goals (try rw [Int.sign_eq_neg_one_of_neg hx] at h ⊢) <;> (try rw [Int.sign_eq_one_of_pos hx] at h ⊢) <;> (try rw [Int.sign_eq_neg_one_of_neg hy] at h ⊢) <;> (try rw [Int.sign_eq_one_of_pos hy] at h ⊢)
  all_goals (try subst hx) <;> (try subst hy)
  all_goals (try rw [Int.sign_zero] at h ⊢) <;> unfold cmpZ at h ⊢
  all_goals (repeat (first | rw [if_pos (by omega)] | rw [if_neg (by omega)])) 
  all_goals (try rfl)
  all_goals (exfalso; revert h; decide)

theorem sign_eq_cases {x y : Int} (h : cmpZ x.sign y.sign = 0) : (x < 0 ∧ y < 0) ∨ (0 ≤ x ∧ 0 ≤ y) := by
  have e := cmpZ_zero.1 h
  rcases Int.lt_trichotomy x 0 with hx | hx | hx
  · rw [Int.sign_eq_neg_one_of_neg hx] at e
    exact .inl ⟨hx, Int.sign_neg_iff.1 (by omega)⟩
  · subst hx
    rw [Int.sign_zero] at e
    have := Int.sign_eq_zero_iff_zero.1 e.symm
    exact .inr ⟨by omega, by omega⟩
  · rw [Int.sign_eq_one_of_pos hx] at e
    have := Int.sign_pos_iff.1 (show 0 < y.sign by omega)
    exact .inr ⟨by omega, by omega⟩

theorem cmpZ_negs {b1 b2 : Bool} {x y : Nat} (h1 : zz b1 x < 0) (h2 : zz b2 y < 0) : cmpZ (zz b1 x) (zz b2 y) = cmpN y x := by
  cases b1 <;> cases b2 <;> simp only [zz, Bool.false_eq_true, if_false, if_true] at h1 h2 ⊢ <;> try omega
  unfold cmpZ cmpN
  split <;> split <;> (try split) <;> (try split) <;> omega

theorem cmpZ_poss {b1 b2 : Bool} {x y : Nat} (h1 : 0 ≤ zz b1 x) (h2 : 0 ≤ zz b2 y) : cmpZ (zz b1 x) (zz b2 y) = cmpN x y := by
  have e1 : zz b1 x = (x : Int) := by cases b1 <;> simp only [zz, Bool.false_eq_true, if_false, if_true] at h1 ⊢ <;> omega
  have e2 : zz b2 y = (y : Int) := by cases b2 <;> simp only [zz, Bool.false_eq_true, if_false, if_true] at h2 ⊢ <;> omega
  rw [e1, e2]
  unfold cmpZ cmpN
  split <;> split <;> (try split) <;> (try split) <;> omega

set_option maxRecDepth 20000 in
set_option maxHeartbeats 2000000 in
theorem wcompare_any (b1 : Bool) (v : Value) (X : List Nat) (b2 : Bool) (u : Value) (Y : List Nat) (w : World) (hA : Arg w v X) (hB : Arg w u Y) :
    Calls Tryz.prog 42 #[.agg #[.bool b1, v], .agg #[.bool b2, u]] w fun e w' => e = .returned (.int .i64 (cmpZ (zz b1 (val X)) (zz b2 (val Y)))) ∧ Below w.heap.size w w' := by
  obtain ⟨a, n, rfl, _, _, _⟩ := hA.form
  obtain ⟨a9, n9, rfl, _, _, _⟩ := hB.form
  obtain ⟨w0, hw0, hb0, h0, h1⟩ := enter2 w (.cells #[.bool b1, .slice a X.length n] 27) (.cells #[.bool b2, .slice a9 Y.length n9] 27)
  obtain ⟨d0, d1⟩ := duo (show w0.drew.heap[w.heap.size]? = some (.cells #[.bool b1, .slice a X.length n] 27) from h0)
  obtain ⟨d2, d3⟩ := duo (show w0.drew.heap[w.heap.size + 1]? = some (.cells #[.bool b2, .slice a9 Y.length n9] 27) from h1)
  have S1 := wsign_any b1 _ X w0.drew (hA.below hb0).drew
  have S2 := hide (fun (w1 : World) (hb1 : Below w0.drew.heap.size w0.drew w1) => wsign_any b2 _ Y w1 ((hB.below hb0).drew.below hb1))
  have HB0 := hide hb0
  have HA := hide (hA.below hb0).drew
  have HB := hide (hB.below hb0).drew
  rw [sg_sign] at S1
  have S3 : Hid (∀ (w1 : World), Below w0.drew.heap.size w0.drew w1 → Calls Tryz.prog 34 #[.agg #[.bool b2, .slice a9 Y.length n9]] w1 fun e w' => e = .returned (.int .i64 (zz b2 (val Y)).sign) ∧ Below w1.heap.size w1 w') := hide (fun w1 hb1 => by have h := S2.out w1 hb1; rw [sg_sign] at h; exact h)
  have HK0 := hide (show w0.drew.heap[w.heap.size]? = some (.cells #[.bool b1, .slice a X.length n] 27) from h0)
  have HK1 := hide (show w0.drew.heap[w.heap.size + 1]? = some (.cells #[.bool b2, .slice a9 Y.length n9] 27) from h1)
  have hsg := cmpZ_signs (zz b1 (val X)) (zz b2 (val Y))
  have hse := sign_eq_cases (x := zz b1 (val X)) (y := zz b2 (val Y))
  have hcn := cmpZ_negs (b1 := b1) (b2 := b2) (x := val X) (y := val Y)
  have hcp := cmpZ_poss (b1 := b1) (b2 := b2) (x := val X) (y := val Y)
  have HNG := hide (fun (w1 : World) (hb1 : Below w0.drew.heap.size w0.drew w1) => wisNeg_any b1 _ X w1 (HA.out.below hb1))
  clear hA hB hb0 h0 h1 S2
  generalize hzx : zz b1 (val X) = zx at *
  generalize hzy : zz b2 (val Y) = zy at *
  obtain ⟨cc, hcc⟩ : ∃ cc, cmpZ zx.sign zy.sign = cc := ⟨_, rfl⟩
  have CC := hide (fun (w1 : World) => cmpInt_any zx.sign zy.sign w1)
  rw [hcc] at hsg hse
  by_cases hc0 : cc = 0
  · subst hc0
    have hcs := hse rfl
    clear hsg hse
    by_cases hneg : zx < 0
    · rw [hcn hneg (by omega)]
      have HD1 := hide (decide_eq_true hneg)
      clear hcn hcp hcs hneg
      go_enter Tryz.func42, Tryz.ntmps42
      go_wp2
      go_region_held3 (fun w' => w'.cell? ⟨w.heap.size, 0, none⟩ = some (.bool b1) ∧ w'.cell? ⟨w.heap.size, 1, none⟩ = some (.slice a X.length n) ∧ w'.cell? ⟨w.heap.size + 1, 0, none⟩ = some (.bool b2) ∧ w'.cell? ⟨w.heap.size + 1, 1, none⟩ = some (.slice a9 Y.length n9)) (go_keep) (first
        | (go_at_call_of 34 a; refine S1.mono ?_; rintro e' t1 ⟨rfl, hb1⟩; have x0 := cell_up6 hb1 d0; have x1 := cell_up6 hb1 d1; have x2 := cell_up6 hb1 d2; have x3 := cell_up6 hb1 d3)
        | (go_at_call_of 34 a9; refine (S3.out t1 hb1).mono ?_; rintro e' t2 ⟨rfl, hb2⟩; have y0 := cell_up6 hb2 x0; have y1 := cell_up6 hb2 x1; have y2 := cell_up6 hb2 x2; have y3 := cell_up6 hb2 x3)
        | (go_at_call 78; refine (CC.out t2).mono ?_; rintro e' t3 ⟨rfl, hw3⟩; rw [hw3]; clear hw3 t3))
      have gg2 := hb1.trans (hb2.mono hb1.size)
      have HBE := hide (HB0.out.trans ((below_undrew6 gg2).mono HB0.out.size))
      have hng := HNG.out t2 gg2
      rw [HD1.out] at hng
      clear HBE
      go_wp2_with fail
      refine hng.mono ?_
      rintro e t4 ⟨rfl, hb4⟩
      have gg4 := gg2.trans (hb4.mono gg2.size)
      obtain ⟨j0, j1⟩ := duo (block_upW gg4 HK0.out)
      obtain ⟨j2, j3⟩ := duo (block_upW gg4 HK1.out)
      have HG4 := hide gg4
      clear hng hb4 hb1 hb2 x0 x1 x2 x3 y0 y1 y2 y3
      have hcf := compare_any _ _ Y X t4 (HB.out.below gg4) (HA.out.below gg4)
      go_wp2_with fail
      refine hcf.mono ?_
      rintro e t5 ⟨rfl, hs⟩
      have hb5 : Below t4.heap.size t4 t5 := hs.below _
      have gg5 := HG4.out.trans (hb5.mono HG4.out.size)
      have HBE := hide (HB0.out.trans ((below_undrew6 gg5).mono HB0.out.size))
      clear hs hb5 gg5 gg4 gg2 hcf
      go_wp2
      go_ret
      exact ⟨rfl, HBE.out⟩
    · rw [hcp (by omega) (by omega)]
      have HD1 := hide (decide_eq_false hneg)
      clear hcn hcp hcs hneg
      go_enter Tryz.func42, Tryz.ntmps42
      go_wp2
      go_region_held3 (fun w' => w'.cell? ⟨w.heap.size, 0, none⟩ = some (.bool b1) ∧ w'.cell? ⟨w.heap.size, 1, none⟩ = some (.slice a X.length n) ∧ w'.cell? ⟨w.heap.size + 1, 0, none⟩ = some (.bool b2) ∧ w'.cell? ⟨w.heap.size + 1, 1, none⟩ = some (.slice a9 Y.length n9)) (go_keep) (first
        | (go_at_call_of 34 a; refine S1.mono ?_; rintro e' t1 ⟨rfl, hb1⟩; have x0 := cell_up6 hb1 d0; have x1 := cell_up6 hb1 d1; have x2 := cell_up6 hb1 d2; have x3 := cell_up6 hb1 d3)
        | (go_at_call_of 34 a9; refine (S3.out t1 hb1).mono ?_; rintro e' t2 ⟨rfl, hb2⟩; have y0 := cell_up6 hb2 x0; have y1 := cell_up6 hb2 x1; have y2 := cell_up6 hb2 x2; have y3 := cell_up6 hb2 x3)
        | (go_at_call 78; refine (CC.out t2).mono ?_; rintro e' t3 ⟨rfl, hw3⟩; rw [hw3]; clear hw3 t3))
      have gg2 := hb1.trans (hb2.mono hb1.size)
      have HBE := hide (HB0.out.trans ((below_undrew6 gg2).mono HB0.out.size))
      have hng := HNG.out t2 gg2
      rw [HD1.out] at hng
      clear HBE
      go_wp2_with fail
      refine hng.mono ?_
      rintro e t4 ⟨rfl, hb4⟩
      have gg4 := gg2.trans (hb4.mono gg2.size)
      obtain ⟨j0, j1⟩ := duo (block_upW gg4 HK0.out)
      obtain ⟨j2, j3⟩ := duo (block_upW gg4 HK1.out)
      have HG4 := hide gg4
      clear hng hb4 hb1 hb2 x0 x1 x2 x3 y0 y1 y2 y3
      have hcf := compare_any _ _ X Y t4 (HA.out.below gg4) (HB.out.below gg4)
      go_wp2_with fail
      refine hcf.mono ?_
      rintro e t5 ⟨rfl, hs⟩
      have hb5 : Below t4.heap.size t4 t5 := hs.below _
      have gg5 := HG4.out.trans (hb5.mono HG4.out.size)
      have HBE := hide (HB0.out.trans ((below_undrew6 gg5).mono HB0.out.size))
      clear hs hb5 gg5 gg4 gg2 hcf
      go_wp2
      go_ret
      exact ⟨rfl, HBE.out⟩
  · rw [← hsg hc0]
    have hne : (cc == 0) = false := by simpa using hc0
    clear hsg hse hcn hcp
    go_enter Tryz.func42, Tryz.ntmps42
    go_wp2
    go_region_held3 (fun w' => w'.cell? ⟨w.heap.size, 0, none⟩ = some (.bool b1) ∧ w'.cell? ⟨w.heap.size, 1, none⟩ = some (.slice a X.length n) ∧ w'.cell? ⟨w.heap.size + 1, 0, none⟩ = some (.bool b2) ∧ w'.cell? ⟨w.heap.size + 1, 1, none⟩ = some (.slice a9 Y.length n9)) (go_keep) (first
      | (go_at_call_of 34 a; refine S1.mono ?_; rintro e' t1 ⟨rfl, hb1⟩; have x0 := cell_up6 hb1 d0; have x1 := cell_up6 hb1 d1; have x2 := cell_up6 hb1 d2; have x3 := cell_up6 hb1 d3)
      | (go_at_call_of 34 a9; refine (S3.out t1 hb1).mono ?_; rintro e' t2 ⟨rfl, hb2⟩; have y0 := cell_up6 hb2 x0; have y1 := cell_up6 hb2 x1; have y2 := cell_up6 hb2 x2; have y3 := cell_up6 hb2 x3)
      | (go_at_call 78; refine (CC.out t2).mono ?_; rintro e' t3 ⟨rfl, hw3⟩; rw [hw3]; clear hw3 t3))
    have gg2 := hb1.trans (hb2.mono hb1.size)
    have HBE := hide (HB0.out.trans ((below_undrew6 gg2).mono HB0.out.size))
    clear hb1 hb2 x0 x1 x2 x3 y0 y1 y2 y3 gg2
    go_wp2
    go_ret
    exact ⟨rfl, HBE.out⟩

theorem wsame_any (b1 : Bool) (v : Value) (X : List Nat) (b2 : Bool) (u : Value) (Y : List Nat) (w : World) (hA : Arg w v X) (hB : Arg w u Y) (he : zz b1 (val X) = zz b2 (val Y)) :
    Calls Tryz.prog 41 #[.agg #[.bool b1, v], .agg #[.bool b2, u]] w fun e w' => e = .returned (.bool true) ∧ Below w.heap.size w w' := by
  obtain ⟨a, n, rfl, _, _, _⟩ := hA.form
  obtain ⟨a9, n9, rfl, _, _, _⟩ := hB.form
  obtain ⟨w0, hw0, hb0, h0, h1⟩ := enter2 w (.cells #[.bool b1, .slice a X.length n] 27) (.cells #[.bool b2, .slice a9 Y.length n9] 27)
  obtain ⟨d0, d1⟩ := duo h0
  obtain ⟨d2, d3⟩ := duo h1
  have HC := wcompare_any b1 _ X b2 _ Y w0 (hA.below hb0) (hB.below hb0)
  rw [he, cmpZ_self] at HC
  have HB0 := hide hb0
  clear hA hB hb0 h0 h1
  go_enter Tryz.func41, Tryz.ntmps41
  go_wp2_with fail
  refine HC.mono ?_
  rintro e w1 ⟨rfl, hb1⟩
  have HB1 := hide (HB0.out.trans (hb1.mono HB0.out.size))
  clear hb1 HC
  go_wp2
  go_ret
  exact ⟨rfl, HB1.out⟩

/-- The codes as the list holds them. -/
def codes (cs : List Int) : Array Value := (cs.map (Value.int .i64)).toArray

theorem codes_cell {w : World} {L : Nat} {cs : List Int} {t : TypeId} (h : w.heap[L]? = some (.cells (codes cs) t)) (k : Nat) (hk : k < cs.length) : w.cell? ⟨L, k, none⟩ = some (.int .i64 (cs.getD k 0)) := by
  simp [World.cell?, h, codes, List.getD, hk]

theorem all_step {cs : List Int} {k : Nat} (hk : k < cs.length) (h : (cs.take k).all (· == 0) = true) (h0 : cs.getD k 0 = 0) : (cs.take (k + 1)).all (· == 0) = true := by
  have e : cs.getD k 0 = cs[k] := by simp [List.getD, hk]
  rw [List.take_succ_eq_append_getElem hk, List.all_append, h]
  simp only [Bool.true_and, List.all_cons, List.all_nil, Bool.and_true, beq_iff_eq]
  rw [← e]; exact h0

set_option maxHeartbeats 1000000 in
theorem wall_any (L n : Nat) (cs : List Int) (w : World) (hn : cs.length = n) (hn2 : n ≤ 1000) (hL : w.heap[L]? = some (.cells (codes cs) 38)) :
    Calls Tryz.prog 28 #[.slice (some ⟨L, 0, none⟩) n n] w fun e w' => e = .returned (.bool (cs.all (· == 0))) ∧ w' = w := by
  have HL := hide hL
  have HN := hide hn
  clear hL
  go_enter Tryz.func28, Tryz.ntmps28
  go_wp2
  go_loop [7] (fun i => ∃ k : Nat, k ≤ n ∧ i = .int .i64 k ∧ (cs.take k).all (· == 0) = true) (fun i => n - (intOf i).toNat)
  case atStart => exact ⟨0, Nat.zero_le _, rfl, by simp⟩
  case round =>
    obtain ⟨k, hk, rfl, hall⟩ := hrel
    have HALL := hide hall
    clear hall
    by_cases hkn : k < n
    · have hck := codes_cell HL.out k (by omega)
      have HM := num6_any (cs.getD k 0) w
      by_cases h0 : cs.getD k 0 = 0
      · have HS := hide (all_step (by omega) HALL.out h0)
        rw [h0] at hck HM
        clear h0
        go_wp2_with fail
        refine HM.mono ?_
        rintro e wn ⟨rfl, hw⟩; rw [hw]; clear hw wn HM
        go_wp2
        go_round
        case rel => exact ⟨k + 1, by omega, by go_num, HS.out⟩
        case measure => simp [intOf]; omega
      · have HF : Hid (cs.all (· == 0) = false) := by
          refine hide ?_
          rw [List.all_eq_false]
          have e : cs.getD k 0 = cs[k] := by simp [List.getD, show k < cs.length by omega]
          exact ⟨cs[k], List.getElem_mem _, by rw [← e]; simpa using h0⟩
        generalize cs.getD k 0 = c at *
        have hne : (c != 0) = true := by simpa using h0
        have hne2 : (c == 0) = false := by simpa using h0
        go_wp2_with fail
        refine HM.mono ?_
        rintro e wn ⟨rfl, hw⟩; rw [hw]; clear hw wn HM
        go_wp2
        go_ret
        rw [HF.out]
        exact ⟨rfl, rfl⟩
    · have ek : k = n := by omega
      subst ek
      have HF : Hid (cs.all (· == 0) = true) := hide (by have h := HALL.out; rw [← HN.out, List.take_length] at h; exact h)
      go_wp2
      go_ret
      rw [HF.out]
      exact ⟨rfl, rfl⟩

end Go.Proofs.YtfgcngndiblpmaaGreatDoor

/- Package whole: Int. -/
namespace Go.Proofs.YtfgcngndiblpmaaGreatDoor
open Go.RowKit
open Lm
attribute [local go_sem ↓] Go.wp_at_zero Go.wp_at_succ

/-- Is it an int? -/
def FitsInt (z : Int) : Prop := -9223372036854775808 ≤ z ∧ z ≤ 9223372036854775807

theorem small_val {X : List Nat} (hl : Limbs X) : ((tr X).length ≤ 1 → (tr X).getD 0 0 = val X ∧ val X < 18446744073709551616) ∧ (¬ (tr X).length ≤ 1 → 18446744073709551616 ≤ val X) := by
  constructor
  · intro h
    rw [← val_tr X]
    have hlt := val_lt (limbs_tr hl)
    match e : tr X, h with
    | [], _ => simp [val]
    | [x], _ =>
      rw [e] at hlt
      simp [val] at hlt ⊢
      exact hlt
  · intro h
    refine Nat.le_of_not_lt fun hlt => h ?_
    exact tr_len_lt X 1 (by rw [Nat.pow_one]; exact hlt)

end Go.Proofs.YtfgcngndiblpmaaGreatDoor
