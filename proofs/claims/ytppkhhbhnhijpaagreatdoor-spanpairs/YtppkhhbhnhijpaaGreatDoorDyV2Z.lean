/- Package dyadic: plus, where none is 0 and the first one's exponent is the lower. -/
import Derived.Test.YtppkhhbhnhijpaaGreatDoorDyVZ
namespace Go.Proofs.YtppkhhbhnhijpaaGreatDoor
open Go.RowKit
open Lm
attribute [local go_sem ↓] Go.wp_at_zero Go.wp_at_succ

theorem dlt_false {a b : Int} (h : b ≤ a) : decide (a < b) = false := decide_eq_false (by omega)

theorem zz_pow (b : Bool) (x g : Nat) : zz b (x * 2 ^ g) = zz b x * 2 ^ g := by
  cases b <;> simp [zz, Int.neg_mul]

theorem plus_blen {M1 M2 : Int} {g n : Nat} (h1 : blen M1.natAbs ≤ n) (h2 : blen M2.natAbs + g ≤ n) : blen (M1 + M2 * 2 ^ g).natAbs ≤ n + 1 := by
  have h3 : blen (M2.natAbs * 2 ^ g) ≤ n := by
    by_cases h0 : M2.natAbs = 0
    · rw [h0, Nat.zero_mul]; exact Nat.le_trans (by decide) (Nat.zero_le n)
    · rw [blen_shl _ _ h0]; exact h2
  have h4 := blen_add8 n h1 h3
  have h5 : (M1 + M2 * 2 ^ g).natAbs ≤ M1.natAbs + M2.natAbs * 2 ^ g := by
    have := Int.natAbs_add_le M1 (M2 * 2 ^ g)
    rw [Int.natAbs_mul, Int.natAbs_pow] at this
    exact this
  have := blen_mono h5
  omega

set_option maxRecDepth 20000 in
set_option maxHeartbeats 2000000 in
theorem yplus_near (b1 : Bool) (a1 : Option Addr) (c1 : Nat) (X : List Nat) (M1 E1 : Int) (b2 : Bool) (a2 : Option Addr) (c2 : Nat) (Y : List Nat) (M2 E2 : Int) (g : Nat) (w : World) (h1 : Nm w b1 (.slice a1 X.length c1) X M1) (h2 : Nm w b2 (.slice a2 Y.length c2) Y M2) (f1 : X.length ≤ 17592186043904) (f2 : Y.length ≤ 17592186043904) (he1 : -1152921504606846976 ≤ E1) (he2 : E2 ≤ 1152921504606846976) (hX : ¬ X.length = 0) (hY : ¬ Y.length = 0) (hg : E2 - E1 = (g : Int)) (hgap : g ≤ blen (val X) + 1) :
    Calls Tryz.prog 122 #[.agg #[.bool b1, .slice a1 X.length c1, .int .i64 E1], .agg #[.bool b2, .slice a2 Y.length c2, .int .i64 E2]] w (YPlus w (omz (M1 + M2 * 2 ^ g)) (oe (M1 + M2 * 2 ^ g) E1)) := by
  obtain ⟨w0, hw0, hb0, k0, k1, k2⟩ := enter3 w (.cells #[.bool b1, .slice a1 X.length c1, .int .i64 E1] 153) (.cells #[.bool b2, .slice a2 Y.length c2, .int .i64 E2] 153) (.cells #[.bool false, .slice none 0 0, .int .i64 0] 153)
  obtain ⟨x0, x1, x2⟩ := tri8 k0
  obtain ⟨x3, x4, x5⟩ := tri8 k1
  have HZ1 := yisZero_any b1 a1 X.length c1 w0
  have HZ2 := hide (fun (W : World) => yisZero_any b2 a2 Y.length c2 W)
  rw [decide_eq_false hX] at HZ1
  rw [decide_eq_false hY] at HZ2
  have HK0 := hide k0
  have HK1 := hide k1
  have HK2 := hide k2
  have HB := hide hb0
  have HN1 := hide h1
  have HN2 := hide h2
  clear k0 k1 k2 hb0 h1 h2
  have hne : ¬ E2 < E1 := by omega
  have wg : IntKind.i64.wrap (g : Int) = (g : Int) := by rw [IntKind.wrap_i64]; omega
  have w1 : IntKind.i64.wrap (((blen (val X) : Nat) : Int) + 1) = ((blen (val X) : Nat) : Int) + 1 := by
    have := blen_lenU HN1.out.arg.limbs
    rw [IntKind.wrap_i64]; omega
  have HI1 : Hid ((g : Int) ≤ ((blen (val X) : Nat) : Int) + 1) := hide (by omega)
  have HLE := hide (fun (W : World) (hg : Below w.heap.size w W) => ylength_any b1 a1 c1 X W (HN1.out.arg.below hg))
  have HY0 : Hid (val Y ≠ 0) := hide (fun h => by have := val_zero HN2.out.norm h; rw [this] at hY; exact hY rfl)
  have hbx := blen_lenU HN1.out.arg.limbs
  have hby := blen_lenU HN2.out.arg.limbs
  have HBG : Hid (blen (val Y) + g ≤ 2251799813631000) := hide (by omega)
  have HBS : Hid (blen (M1 + M2 * 2 ^ g).natAbs ≤ 2251799813631001) := hide (plus_blen (by rw [← HN1.out.abs]; omega) (by rw [← HN2.out.abs]; omega))
  clear hbx hby
  generalize blen (val X) = l at *
  go_enter Tryz.func122, Tryz.ntmps122
  go_wp2_with fail
  refine HZ1.mono ?_
  rintro e t1 ⟨rfl, g1⟩
  have HG0 := hide (bl_trans8 HB.out g1)
  have HL0 := hide (block_upW g1 HK0.out)
  have HL1 := hide (block_upW g1 HK1.out)
  have HL2 := hide (block_upW g1 HK2.out)
  obtain ⟨l3, l4, l5⟩ := tri8 HL1.out
  have HZZ := HZ2.out t1
  clear g1 HZ1 HZ2 HK0 HK1 HK2 HB x0 x1 x2 x3 x4 x5
  go_wp2_with fail
  refine HZZ.mono ?_
  rintro e t2 ⟨rfl, g2⟩
  have HG := hide (bl_trans8 HG0.out g2)
  have HM0 := hide (block_upW g2 HL0.out)
  have HM1 := hide (block_upW g2 HL1.out)
  have HM2 := hide (block_upW g2 HL2.out)
  obtain ⟨l0, l1, l2⟩ := tri8 HM0.out
  obtain ⟨l3, l4, l5⟩ := tri8 HM1.out
  clear g2 HZZ HL0 HL1 HL2 HG0
  have g0 : Below t2.drew.heap.size t2.drew t2.drew := Below.refl _ _
  have gd : Below w.heap.size w t2.drew := HG.out.drew
  have HL := HLE.out t2.drew gd
  have KS := hide (fun (W : World) (hg : Below t2.drew.heap.size t2.drew W) => show W.cell? ⟨w.heap.size, 0, none⟩ = some (.bool b1) ∧ W.cell? ⟨w.heap.size, 1, none⟩ = some (.slice a1 X.length c1) ∧ W.cell? ⟨w.heap.size, 2, none⟩ = some (.int .i64 E1) ∧ W.cell? ⟨w.heap.size + 1, 0, none⟩ = some (.bool b2) ∧ W.cell? ⟨w.heap.size + 1, 1, none⟩ = some (.slice a2 Y.length c2) ∧ W.cell? ⟨w.heap.size + 1, 2, none⟩ = some (.int .i64 E2) from by
    obtain ⟨y0, y1, y2⟩ := tri8 (block_upW hg (show t2.drew.heap[w.heap.size]? = some (.cells #[.bool b1, .slice a1 X.length c1, .int .i64 E1] 153) from HM0.out))
    obtain ⟨y3, y4, y5⟩ := tri8 (block_upW hg (show t2.drew.heap[w.heap.size + 1]? = some (.cells #[.bool b2, .slice a2 Y.length c2, .int .i64 E2] 153) from HM1.out))
    exact ⟨y0, y1, y2, y3, y4, y5⟩)
  obtain ⟨y0, y1, y2, y3, y4, y5⟩ := KS.out _ g0
  go_wp2
  refine wp_region_held_drew (S := fun w' => w'.cell? ⟨w.heap.size, 0, none⟩ = some (.bool b1) ∧ w'.cell? ⟨w.heap.size, 1, none⟩ = some (.slice a1 X.length c1) ∧ w'.cell? ⟨w.heap.size, 2, none⟩ = some (.int .i64 E1) ∧ w'.cell? ⟨w.heap.size + 1, 0, none⟩ = some (.bool b2) ∧ w'.cell? ⟨w.heap.size + 1, 1, none⟩ = some (.slice a2 Y.length c2) ∧ w'.cell? ⟨w.heap.size + 1, 2, none⟩ = some (.int .i64 E2)) (by kernel_rfl) (KS.out _ g0) (fun hHeld => ?_)
  refine wpAnyH_take (i := 0) (oi := { dst := some 33, op := Op.move (Operand.tmp 6), type := 3, pos := "ring.go:110", after := #[], guard := none }) (v := .int .i64 (g : Int)) rfl (by kernel_rfl) (by kernel_rfl) (by kernel_rfl) (fun _ _ _ h => h) (Or.inl ⟨by rfl, fun w9 hSw => ?_⟩) hHeld ?_
  · (try dsimp only at hSw); go_simp
  try simp only [Act.put, List.setIfInBounds_toArray, List.set_cons_zero, List.set_cons_succ]
  refine wpAnyH_take (i := 1) (oi := { dst := some 34, op := Op.fieldAddr 153 (Operand.tmp 2) 0, type := 0, pos := "ring.go:110", after := #[], guard := none }) (v := .pointer (some ⟨w.heap.size, 0, none⟩)) rfl (by kernel_rfl) (by kernel_rfl) (by kernel_rfl) (fun _ _ _ h => h) (Or.inl ⟨by rfl, fun w9 hSw => ?_⟩) hHeld ?_
  · (try dsimp only at hSw); go_simp
  try simp only [Act.put, List.setIfInBounds_toArray, List.set_cons_zero, List.set_cons_succ]
  refine wpAnyH_take (i := 2) (oi := { dst := some 35, op := Op.load 150 (Operand.tmp 34), type := 150, pos := "ring.go:110", after := #[{ on := 1, ground := Ground.data }], guard := none }) (v := .agg #[.bool b1, .slice a1 X.length c1]) rfl (by kernel_rfl) (by kernel_rfl) (by kernel_rfl) (fun _ _ _ h => h) (Or.inl ⟨by rfl, fun w9 hSw => ?_⟩) hHeld ?_
  · (try dsimp only at hSw); go_simp
  try simp only [Act.put, List.setIfInBounds_toArray, List.set_cons_zero, List.set_cons_succ]
  refine wpAnyH_ready (rs := [3]) (by kernel_rfl) (by simp) ?_
  refine AllReadyH.cons rfl (fun K hK => ?_) AllReadyH.nil
  go_simp
  refine HL.mono ?_
  rintro e' t3 ⟨rfl, g1⟩
  refine hK.out _ _ (KS.out _ g1) (fun hHeld2 => ?_)
  clear hK
  have i2 : decide ((l : Int) + 1 < (g : Int)) = false := dlt_false HI1.out
  try simp only [Act.put, List.setIfInBounds_toArray, List.set_cons_zero, List.set_cons_succ]
  refine wpAnyH_take (i := 4) (oi := { dst := some 37, op := Op.binOp BinOp.add 3 (Operand.tmp 36) (Operand.const (Value.int IntKind.i64 1)) 3, type := 3, pos := "ring.go:110", after := #[{ on := 3, ground := Ground.data }], guard := none }) (v := .int .i64 ((l : Int) + 1)) rfl (by kernel_rfl) (by kernel_rfl) (by kernel_rfl) (fun _ _ _ h => h) (Or.inl ⟨by rfl, fun w9 hSw => ?_⟩) hHeld2 ?_
  · (try dsimp only at hSw); go_simp
  try simp only [Act.put, List.setIfInBounds_toArray, List.set_cons_zero, List.set_cons_succ]
  refine wpAnyH_take (i := 5) (oi := { dst := some 38, op := Op.binOp BinOp.gtr 3 (Operand.tmp 33) (Operand.tmp 37) 3, type := 4, pos := "ring.go:110", after := #[{ on := 0, ground := Ground.data }, { on := 4, ground := Ground.data }], guard := none }) (v := .bool false) rfl (by kernel_rfl) (by kernel_rfl) (by kernel_rfl) (fun _ _ _ h => h) (Or.inl ⟨by rfl, fun w9 hSw => ?_⟩) hHeld2 ?_
  · (try dsimp only at hSw); go_simp
  try simp only [Act.put, List.setIfInBounds_toArray, List.set_cons_zero, List.set_cons_succ]
  refine wpAnyH_take (i := 6) (oi := { dst := some 39, op := Op.move (Operand.tmp 38), type := 4, pos := "ring.go:110", after := #[{ on := 5, ground := Ground.data }, { on := 3, ground := Ground.chain }], guard := none }) (v := .bool false) rfl (by kernel_rfl) (by kernel_rfl) (by kernel_rfl) (fun _ _ _ h => h) (Or.inl ⟨by rfl, fun w9 hSw => ?_⟩) hHeld2 ?_
  · (try dsimp only at hSw); go_simp
  try simp only [Act.put, List.setIfInBounds_toArray, List.set_cons_zero, List.set_cons_succ]
  refine wpAnyH_take (i := 7) (oi := { dst := some 40, op := Op.load 153 (Operand.tmp 3), type := 153, pos := "ring.go:110", after := #[{ on := 6, ground := Ground.guard }], guard := some (6, true) }) (v := undef) rfl (by kernel_rfl) (by kernel_rfl) (by kernel_rfl) (fun _ _ _ h => h) (Or.inr ⟨by rfl, rfl⟩) hHeld2 ?_
  try simp only [Act.put, List.setIfInBounds_toArray, List.set_cons_zero, List.set_cons_succ]
  refine wpAnyH_take (i := 8) (oi := { dst := some 41, op := Op.call { callee := Callee.value (Operand.func 139), args := #[Operand.tmp 40], argTypes := #[153] }, type := 3, pos := "ring.go:110", after := #[{ on := 7, ground := Ground.data }, { on := 6, ground := Ground.chain }, { on := 6, ground := Ground.guard }], guard := some (6, true) }) (v := undef) rfl (by kernel_rfl) (by kernel_rfl) (by kernel_rfl) (fun _ _ _ h => h) (Or.inr ⟨by rfl, rfl⟩) hHeld2 ?_
  try simp only [Act.put, List.setIfInBounds_toArray, List.set_cons_zero, List.set_cons_succ]
  refine wpAnyH_take (i := 9) (oi := { dst := some 42, op := Op.fieldAddr 153 (Operand.tmp 2) 1, type := 0, pos := "ring.go:110", after := #[{ on := 6, ground := Ground.guard }], guard := some (6, true) }) (v := undef) rfl (by kernel_rfl) (by kernel_rfl) (by kernel_rfl) (fun _ _ _ h => h) (Or.inr ⟨by rfl, rfl⟩) hHeld2 ?_
  try simp only [Act.put, List.setIfInBounds_toArray, List.set_cons_zero, List.set_cons_succ]
  refine wpAnyH_take (i := 10) (oi := { dst := some 43, op := Op.load 3 (Operand.tmp 42), type := 3, pos := "ring.go:110", after := #[{ on := 9, ground := Ground.data }, { on := 6, ground := Ground.guard }], guard := some (6, true) }) (v := undef) rfl (by kernel_rfl) (by kernel_rfl) (by kernel_rfl) (fun _ _ _ h => h) (Or.inr ⟨by rfl, rfl⟩) hHeld2 ?_
  try simp only [Act.put, List.setIfInBounds_toArray, List.set_cons_zero, List.set_cons_succ]
  refine wpAnyH_take (i := 11) (oi := { dst := some 44, op := Op.binOp BinOp.sub 3 (Operand.tmp 41) (Operand.tmp 43) 3, type := 3, pos := "ring.go:110", after := #[{ on := 8, ground := Ground.data }, { on := 10, ground := Ground.data }, { on := 6, ground := Ground.guard }], guard := some (6, true) }) (v := undef) rfl (by kernel_rfl) (by kernel_rfl) (by kernel_rfl) (fun _ _ _ h => h) (Or.inr ⟨by rfl, rfl⟩) hHeld2 ?_
  try simp only [Act.put, List.setIfInBounds_toArray, List.set_cons_zero, List.set_cons_succ]
  refine wpAnyH_take (i := 12) (oi := { dst := some 45, op := Op.binOp BinOp.gtr 3 (Operand.tmp 44) (Operand.const (Value.int IntKind.i64 67108864)) 3, type := 4, pos := "ring.go:110", after := #[{ on := 11, ground := Ground.data }, { on := 6, ground := Ground.guard }], guard := some (6, true) }) (v := undef) rfl (by kernel_rfl) (by kernel_rfl) (by kernel_rfl) (fun _ _ _ h => h) (Or.inr ⟨by rfl, rfl⟩) hHeld2 ?_
  try simp only [Act.put, List.setIfInBounds_toArray, List.set_cons_zero, List.set_cons_succ]
  refine wpAnyH_take (i := 13) (oi := { dst := some 46, op := Op.pick (Operand.tmp 39) (Operand.tmp 45) (Operand.const (Value.bool false)), type := 4, pos := "ring.go:110", after := #[{ on := 6, ground := Ground.data }, { on := 12, ground := Ground.data }], guard := none }) (v := .bool false) rfl (by kernel_rfl) (by kernel_rfl) (by kernel_rfl) (fun _ _ _ h => h) (Or.inl ⟨by rfl, fun w9 hSw => ?_⟩) hHeld2 ?_
  · (try dsimp only at hSw); go_simp
  try simp only [Act.put, List.setIfInBounds_toArray, List.set_cons_zero, List.set_cons_succ]
  refine wpAnyH_done (by kernel_rfl) ?_ _
  clear hHeld hHeld2
  have G3 := bl_trans8 gd g1
  have HQ0 := hide (block_upW g1 (show t2.drew.heap[w.heap.size]? = some (.cells #[.bool b1, .slice a1 X.length c1, .int .i64 E1] 153) from HM0.out))
  have HQ1 := hide (block_upW g1 (show t2.drew.heap[w.heap.size + 1]? = some (.cells #[.bool b2, .slice a2 Y.length c2, .int .i64 E2] 153) from HM1.out))
  have HQ2 := hide (block_upW g1 (show t2.drew.heap[w.heap.size + 1 + 1]? = some (.cells #[.bool false, .slice none 0 0, .int .i64 0] 153) from HM2.out))
  have HSH := yshifted_any _ Y (g : Int) t3 (HN2.out.arg.below G3) (by omega) (by omega) (by have := HBG.out; omega) HY0.out
  rw [fl_up] at HSH
  have HG3 := hide G3
  obtain ⟨l3, l4, l5⟩ := tri8 HQ1.out
  clear G3 gd g0 KS HL HM0 HM1 HM2 HG y0 y1 y2 y3 y4 y5 g1
  go_wp2_with fail
  refine HSH.mono ?_
  rintro e t4 ⟨⟨a4, n4, c4, r4, rfl, A4, hn4, v4, q4⟩, g4⟩
  have HV4 := hide (And.intro hn4 (And.intro v4 q4))
  have c1' := block_upW g4 HQ1.out
  have hfb := tri8f c1'
  obtain ⟨m3, m4, m5⟩ := tri8 c1'
  have d1 : (t4.setCell ⟨w.heap.size + 1, 1, none⟩ (.slice a4 n4 c4)).heap[w.heap.size + 1]? = some (.cells #[.bool b2, .slice a4 n4 c4, .int .i64 E2] 153) := box_modify (k := 1) c1' (.slice a4 n4 c4)
  have d0 : (t4.setCell ⟨w.heap.size + 1, 1, none⟩ (.slice a4 n4 c4)).heap[w.heap.size]? = some (.cells #[.bool b1, .slice a1 X.length c1, .int .i64 E1] 153) := by
    rw [Below.heap_setCell _ _ _ _ (by simp)]; exact block_upW g4 HQ0.out
  have d2 : (t4.setCell ⟨w.heap.size + 1, 1, none⟩ (.slice a4 n4 c4)).heap[w.heap.size + 1 + 1]? = some (.cells #[.bool false, .slice none 0 0, .int .i64 0] 153) := by
    rw [Below.heap_setCell _ _ _ _ (by simp)]; exact block_upW g4 HQ2.out
  have G5 : Below w.heap.size w (t4.setCell ⟨w.heap.size + 1, 1, none⟩ (.slice a4 n4 c4)) := (bl_trans8 HG3.out g4).setCell (p := ⟨w.heap.size + 1, 1, none⟩) (by show w.heap.size ≤ w.heap.size + 1; omega) _
  have A5 := A4.off8 (o := 1) (u := .slice a4 n4 c4) c1' (by decide)
  have hbr : blen (val r4) ≤ 2251799813632000 := by
    rw [v4, blen_shl _ _ HY0.out]; have := HBG.out; omega
  have hr4 : r4.length ≤ 35184372088000 := few_ofW q4 rfl (by omega)
  have HA5 := hide A5
  have HD := hide (And.intro d0 (And.intro d1 d2))
  have HG5 := hide G5
  clear c1' d0 d1 d2 G5 A4 A5 g4 HSH HQ0 HQ1 HQ2 HG3 hn4 v4 q4 hbr
  go_wp2
  obtain ⟨wS, hwS⟩ : ∃ wS, t4.setCell ⟨w.heap.size + 1, 1, none⟩ (.slice a4 n4 c4) = wS := ⟨_, rfl⟩
  rw [hwS] at HA5 HD HG5 ⊢
  obtain ⟨d0, d1, d2⟩ := HD.out
  have gdW : Below w.heap.size w wS.drew := HG5.out.drew
  have g0 : Below wS.drew.heap.size wS.drew wS.drew := Below.refl _ _
  obtain ⟨hn4, v4, q4⟩ := HV4.out
  have hnm : Nm wS.drew b2 (.slice a4 r4.length c4) r4 (M2 * 2 ^ g) := ⟨by
    have h9 := (HA5.out.arg (by omega)).below (Below.refl _ _).drew
    rw [hn4] at h9; exact h9, q4, by rw [v4, ← HN2.out.val, zz_pow]⟩
  have HTT := ytotal_any b1 a1 c1 X M1 b2 a4 c4 r4 (M2 * 2 ^ g) wS.drew (HN1.out.below gdW) hnm (by omega) (by omega)
  rw [← hn4] at HTT
  have KS := hide (fun (W : World) (hg : Below wS.drew.heap.size wS.drew W) => show W.cell? ⟨w.heap.size, 0, none⟩ = some (.bool b1) ∧ W.cell? ⟨w.heap.size, 1, none⟩ = some (.slice a1 X.length c1) ∧ W.cell? ⟨w.heap.size, 2, none⟩ = some (.int .i64 E1) ∧ W.cell? ⟨w.heap.size + 1, 0, none⟩ = some (.bool b2) ∧ W.cell? ⟨w.heap.size + 1, 1, none⟩ = some (.slice a4 n4 c4) from by
    obtain ⟨y0, y1, y2⟩ := tri8 (block_upW hg (show wS.drew.heap[w.heap.size]? = some (.cells #[.bool b1, .slice a1 X.length c1, .int .i64 E1] 153) from d0))
    obtain ⟨y3, y4, y5⟩ := tri8 (block_upW hg (show wS.drew.heap[w.heap.size + 1]? = some (.cells #[.bool b2, .slice a4 n4 c4, .int .i64 E2] 153) from d1))
    exact ⟨y0, y1, y2, y3, y4⟩)
  have so : ∀ (W : World) (k : Nat) (u : Value) (k' : Nat), (W.setCell ⟨w.heap.size + 1 + 1, k, none⟩ u).cell? ⟨w.heap.size, k', none⟩ = W.cell? ⟨w.heap.size, k', none⟩ := fun W k u k' => cell_other8 (by omega)
  have so2 : ∀ (W : World) (k : Nat) (u : Value) (k' : Nat), (W.setCell ⟨w.heap.size + 1 + 1, k, none⟩ u).cell? ⟨w.heap.size + 1, k', none⟩ = W.cell? ⟨w.heap.size + 1, k', none⟩ := fun W k u k' => cell_other8 (by omega)
  have H1 := hide (show wS.drew.heap[w.heap.size + 1 + 1]? = some (.cells #[.bool false, .slice none 0 0, .int .i64 0] 153) from d2)
  have HB := hide gdW
  obtain ⟨y0, y1, y2, y3, y4⟩ := KS.out _ g0
  clear d0 d1 d2 HD gdW hnm HA5 hn4 v4 q4 HG5 m3 m4 m5 hfb
  go_region_held3 (fun w' => w'.cell? ⟨w.heap.size, 0, none⟩ = some (.bool b1) ∧ w'.cell? ⟨w.heap.size, 1, none⟩ = some (.slice a1 X.length c1) ∧ w'.cell? ⟨w.heap.size, 2, none⟩ = some (.int .i64 E1) ∧ w'.cell? ⟨w.heap.size + 1, 0, none⟩ = some (.bool b2) ∧ w'.cell? ⟨w.heap.size + 1, 1, none⟩ = some (.slice a4 n4 c4)) (first | with_reducible exact KS.out _ g1 | with_reducible exact KS.out _ g0 | (refine ⟨?_, ?_, ?_, ?_, ?_⟩ <;> (first | rw [so, so, so] | rw [so2, so2, so2]) <;> first | exact (KS.out _ g1).1 | exact (KS.out _ g1).2.1 | exact (KS.out _ g1).2.2.1 | exact (KS.out _ g1).2.2.2.1 | exact (KS.out _ g1).2.2.2.2)) (first
    | (go_at_call 141; refine HTT.mono ?_; rintro e' t6 ⟨⟨b6, a6, n6, c6, r6, rfl, hn6, N6⟩, g1⟩; have HN6 := hide hn6; clear hn6; have hz := block_upW g1 H1.out; have hf := tri8f hz; obtain ⟨m0, m1, m2⟩ := tri8 hz))
  have T3 := tri8_all hz (.bool b6) (.slice a6 n6 c6) (.int .i64 E1)
  have T4 := below_tri8 (bl_trans8 HB.out g1) (show w.heap.size ≤ w.heap.size + 1 + 1 by omega) (.bool b6) (.slice a6 n6 c6) (.int .i64 E1)
  have T5 := N6.tri8 hz b6 a6 n6 c6 (.int .i64 E1)
  obtain ⟨p0, p1, p2⟩ := tri8 T3
  have HE := hide (And.intro T5 T4)
  clear T3 T4 T5 so so2 m0 m1 m2 hf KS g0 g1 HTT hz N6
  generalize ((t6.setCell ⟨w.heap.size + 1 + 1, 0, none⟩ (.bool b6)).setCell ⟨w.heap.size + 1 + 1, 1, none⟩ (.slice a6 n6 c6)).setCell ⟨w.heap.size + 1 + 1, 2, none⟩ (.int .i64 E1) = w5 at *
  go_wp2
  refine bodyPost_ret (v := .tuple #[.agg #[.bool b6, .slice a6 n6 c6, .int .i64 E1], .int .i64 0]) (by simp [results, Tryz.results122, go_sem, p0, p1, p2]) rfl ?_
  exact ⟨.inl ⟨_, _, _, _, r6, M1 + M2 * 2 ^ g, _, rfl, HN6.out, HE.out.1, rfl, rfl, by omega, by omega, HE.out.1.len 35184372088800 (by have := HBS.out; omega)⟩, HE.out.2⟩

theorem dlt_true {a b : Int} (h : a < b) : decide (a < b) = true := decide_eq_true h

/-- A sum of numbers far apart is long. -/
theorem plus_long {M1 M2 : Int} {g : Nat} (h0 : M2.natAbs ≠ 0) (hg : blen M1.natAbs + 1 < g) (h1 : M1.natAbs % 2 = 1) : g + blen M2.natAbs - 1 ≤ blen (omz (M1 + M2 * 2 ^ g)).natAbs := by
  have hodd : (M1 + M2 * 2 ^ g).natAbs % 2 = 1 := by
    obtain ⟨k, rfl⟩ : ∃ k, g = k + 1 := ⟨g - 1, by omega⟩
    have e : M1 + M2 * 2 ^ (k + 1) = M1 + 2 * (M2 * 2 ^ k) := by rw [Int.pow_succ]; grind
    rw [e]
    generalize M2 * 2 ^ k = q
    omega
  rw [(omz_odd hodd 0).1]
  have l1 := (blen_le_iff M1.natAbs _).1 (Nat.le_refl _)
  have l2 : ¬ M2.natAbs < 2 ^ (blen M2.natAbs - 1) := fun h => by
    have := (blen_le_iff _ _).2 h
    have : blen M2.natAbs ≠ 0 := fun h => h0 ((blen_zeroW _).1 h)
    omega
  have hb0 : blen M2.natAbs ≠ 0 := fun h => h0 ((blen_zeroW _).1 h)
  have h3 : M2.natAbs * 2 ^ g ≤ (M1 + M2 * 2 ^ g).natAbs + M1.natAbs := by
    have := Int.natAbs_add_le (M1 + M2 * 2 ^ g) (-M1)
    rw [Int.natAbs_neg, show M1 + M2 * 2 ^ g + -M1 = M2 * 2 ^ g by omega, Int.natAbs_mul, Int.natAbs_pow] at this
    exact this
  refine Nat.le_of_not_lt fun hlt => ?_
  have h4 := (blen_le_iff (M1 + M2 * 2 ^ g).natAbs (g + blen M2.natAbs - 2)).1 (by omega)
  have p1 : 2 ^ (blen M2.natAbs - 1) * 2 ^ g ≤ M2.natAbs * 2 ^ g := Nat.mul_le_mul_right _ (by omega)
  have e1 : 2 ^ (blen M2.natAbs - 1) * 2 ^ g = 2 ^ (g + blen M2.natAbs - 2) * 2 := by
    rw [← Nat.pow_add, ← Nat.pow_succ]; congr 1; omega
  have p2 : 2 ^ blen M1.natAbs ≤ 2 ^ (g + blen M2.natAbs - 2) := Nat.pow_le_pow_right (by omega) (by omega)
  omega

set_option maxRecDepth 20000 in
set_option maxHeartbeats 2000000 in
theorem yplus_far (b1 : Bool) (a1 : Option Addr) (c1 : Nat) (X : List Nat) (M1 E1 : Int) (b2 : Bool) (a2 : Option Addr) (c2 : Nat) (Y : List Nat) (M2 E2 : Int) (g : Nat) (w : World) (h1 : Nm w b1 (.slice a1 X.length c1) X M1) (h2 : Nm w b2 (.slice a2 Y.length c2) Y M2) (f1 : X.length ≤ 17592186043904) (f2 : Y.length ≤ 17592186043904) (he1 : -1152921504606846976 ≤ E1) (he2 : E2 ≤ 1152921504606846976) (hX : ¬ X.length = 0) (hY : ¬ Y.length = 0) (hg : E2 - E1 = (g : Int)) (hgap : blen (val X) + 1 < g) (hodd : M1.natAbs % 2 = 1) :
    Calls Tryz.prog 122 #[.agg #[.bool b1, .slice a1 X.length c1, .int .i64 E1], .agg #[.bool b2, .slice a2 Y.length c2, .int .i64 E2]] w (YPlus w (omz (M1 + M2 * 2 ^ g)) (oe (M1 + M2 * 2 ^ g) E1)) := by
  obtain ⟨w0, hw0, hb0, k0, k1, k2⟩ := enter3 w (.cells #[.bool b1, .slice a1 X.length c1, .int .i64 E1] 153) (.cells #[.bool b2, .slice a2 Y.length c2, .int .i64 E2] 153) (.cells #[.bool false, .slice none 0 0, .int .i64 0] 153)
  obtain ⟨x0, x1, x2⟩ := tri8 k0
  obtain ⟨x3, x4, x5⟩ := tri8 k1
  have HZ1 := yisZero_any b1 a1 X.length c1 w0
  have HZ2 := hide (fun (W : World) => yisZero_any b2 a2 Y.length c2 W)
  rw [decide_eq_false hX] at HZ1
  rw [decide_eq_false hY] at HZ2
  have HK0 := hide k0
  have HK1 := hide k1
  have HK2 := hide k2
  have HB := hide hb0
  have HN1 := hide h1
  have HN2 := hide h2
  clear k0 k1 k2 hb0 h1 h2
  have hne : ¬ E2 < E1 := by omega
  have wg : IntKind.i64.wrap (g : Int) = (g : Int) := by rw [IntKind.wrap_i64]; omega
  have hbx := blen_lenU HN1.out.arg.limbs
  have hby := blen_lenU HN2.out.arg.limbs
  have w1 : IntKind.i64.wrap (((blen (val X) : Nat) : Int) + 1) = ((blen (val X) : Nat) : Int) + 1 := by
    rw [IntKind.wrap_i64]; omega
  have i1 : ((blen (val X) : Nat) : Int) + 1 < (g : Int) := by omega
  have HI1 : Hid (((blen (val X) : Nat) : Int) + 1 < (g : Int)) := hide i1
  have HLE := hide (fun (W : World) (hg : Below w.heap.size w W) => ylength_any b1 a1 c1 X W (HN1.out.arg.below hg))
  have HTP := hide (fun (W : World) (hg : Below w.heap.size w W) => ytop_any b2 a2 c2 Y E2 W (HN2.out.arg.below hg) (by omega) (by omega))
  have HY0 : Hid (val Y ≠ 0) := hide (fun h => by have := val_zero HN2.out.norm h; rw [this] at hY; exact hY rfl)
  have HMO : Hid (M1.natAbs = val X ∧ M2.natAbs = val Y) := hide ⟨HN1.out.abs.symm, HN2.out.abs.symm⟩
  have w2 : IntKind.i64.wrap (E2 + ((blen (val Y) : Nat) : Int) - 1 - E1) = E2 + ((blen (val Y) : Nat) : Int) - 1 - E1 := by rw [IntKind.wrap_i64]; omega
  by_cases hbig : 67108864 < g + blen (val Y) - 1
  · have HBIG : Hid (67108864 < blen (omz (M1 + M2 * 2 ^ g)).natAbs) := hide (by
      have h9 := plus_long (M1 := M1) (M2 := M2) (g := g) (by rw [HMO.out.2]; exact HY0.out) (by rw [HMO.out.1]; exact hgap) hodd
      rw [HMO.out.2] at h9
      omega)
    have i3 : (67108864 : Int) < E2 + ((blen (val Y) : Nat) : Int) - 1 - E1 := by omega
    generalize hd : E2 + ((blen (val Y) : Nat) : Int) - 1 - E1 = d at *
    have hd2 : E2 + ((blen (val Y) : Nat) : Int) - 1 - E1 = d := hd
    clear hd hbx hby hbig hgap
    generalize hly : blen (val Y) = ly at *
    clear hly
    generalize blen (val X) = l at *
    go_enter Tryz.func122, Tryz.ntmps122
    go_wp2_with fail
    refine HZ1.mono ?_
    rintro e t1 ⟨rfl, g1⟩
    have HG0 := hide (bl_trans8 HB.out g1)
    have HL0 := hide (block_upW g1 HK0.out)
    have HL1 := hide (block_upW g1 HK1.out)
    have HL2 := hide (block_upW g1 HK2.out)
    obtain ⟨l3, l4, l5⟩ := tri8 HL1.out
    have HZZ := HZ2.out t1
    clear g1 HZ1 HZ2 HK0 HK1 HK2 HB x0 x1 x2 x3 x4 x5
    go_wp2_with fail
    refine HZZ.mono ?_
    rintro e t2 ⟨rfl, g2⟩
    have HG := hide (bl_trans8 HG0.out g2)
    have HM0 := hide (block_upW g2 HL0.out)
    have HM1 := hide (block_upW g2 HL1.out)
    have HM2 := hide (block_upW g2 HL2.out)
    obtain ⟨l0, l1, l2⟩ := tri8 HM0.out
    obtain ⟨l3, l4, l5⟩ := tri8 HM1.out
    clear g2 HZZ HL0 HL1 HL2 HG0
    have g0 : Below t2.drew.heap.size t2.drew t2.drew := Below.refl _ _
    have gd : Below w.heap.size w t2.drew := HG.out.drew
    have HL := HLE.out t2.drew gd
    have HTQ := hide (fun (W : World) (hg : Below t2.drew.heap.size t2.drew W) => HTP.out W (bl_trans8 gd hg))
    have KS := hide (fun (W : World) (hg : Below t2.drew.heap.size t2.drew W) => show W.cell? ⟨w.heap.size, 0, none⟩ = some (.bool b1) ∧ W.cell? ⟨w.heap.size, 1, none⟩ = some (.slice a1 X.length c1) ∧ W.cell? ⟨w.heap.size, 2, none⟩ = some (.int .i64 E1) ∧ W.cell? ⟨w.heap.size + 1, 0, none⟩ = some (.bool b2) ∧ W.cell? ⟨w.heap.size + 1, 1, none⟩ = some (.slice a2 Y.length c2) ∧ W.cell? ⟨w.heap.size + 1, 2, none⟩ = some (.int .i64 E2) from by
      obtain ⟨y0, y1, y2⟩ := tri8 (block_upW hg (show t2.drew.heap[w.heap.size]? = some (.cells #[.bool b1, .slice a1 X.length c1, .int .i64 E1] 153) from HM0.out))
      obtain ⟨y3, y4, y5⟩ := tri8 (block_upW hg (show t2.drew.heap[w.heap.size + 1]? = some (.cells #[.bool b2, .slice a2 Y.length c2, .int .i64 E2] 153) from HM1.out))
      exact ⟨y0, y1, y2, y3, y4, y5⟩)
    obtain ⟨y0, y1, y2, y3, y4, y5⟩ := KS.out _ g0
    go_wp2
    go_region_held3 (fun w' => w'.cell? ⟨w.heap.size, 0, none⟩ = some (.bool b1) ∧ w'.cell? ⟨w.heap.size, 1, none⟩ = some (.slice a1 X.length c1) ∧ w'.cell? ⟨w.heap.size, 2, none⟩ = some (.int .i64 E1) ∧ w'.cell? ⟨w.heap.size + 1, 0, none⟩ = some (.bool b2) ∧ w'.cell? ⟨w.heap.size + 1, 1, none⟩ = some (.slice a2 Y.length c2) ∧ w'.cell? ⟨w.heap.size + 1, 2, none⟩ = some (.int .i64 E2)) (first | with_reducible exact KS.out _ g1 | with_reducible exact KS.out _ ga | with_reducible exact KS.out _ g0) (first
      | (go_at_call 138; refine HL.mono ?_; rintro e' t3 ⟨rfl, ga⟩; have i2 : decide ((l : Int) + 1 < (g : Int)) = true := dlt_true HI1.out)
      | (go_at_call 139; refine (HTQ.out t3 ga).mono ?_; rintro e' t3b ⟨rfl, hbt⟩; have g1 := bl_trans8 ga hbt))
    have HC1 := hide (block_upW g1 (show t2.drew.heap[w.heap.size + 1 + 1]? = some (.cells #[.bool false, .slice none 0 0, .int .i64 0] 153) from HM2.out))
    have HGZ := hide (bl_trans8 gd g1)
    have hf1 := tri8f HC1.out
    obtain ⟨m0, m1, m2⟩ := tri8 HC1.out
    clear g0 gd KS HL HTQ HM0 HM1 HM2 ga hbt g1
    go_wp2
    have T3 := tri8_all HC1.out (.bool false) (.slice none 0 0) (.int .i64 0)
    have T4 := below_tri8 HGZ.out (show w.heap.size ≤ w.heap.size + 1 + 1 by omega) (.bool false) (.slice none 0 0) (.int .i64 0)
    obtain ⟨p0, p1, p2⟩ := tri8 T3
    have HE := hide T4
    clear T3 T4
    generalize ((t3b.setCell ⟨w.heap.size + 1 + 1, 0, none⟩ (.bool false)).setCell ⟨w.heap.size + 1 + 1, 1, none⟩ (.slice none 0 0)).setCell ⟨w.heap.size + 1 + 1, 2, none⟩ (.int .i64 0) = w5 at *
    refine bodyPost_ret (v := .tuple #[.agg #[.bool false, .slice none 0 0, .int .i64 0], .int .i64 3]) (by simp [results, Tryz.results122, go_sem, p0, p1, p2]) rfl ?_
    exact ⟨.inr ⟨rfl, HBIG.out⟩, HE.out⟩
  · have i3 : ¬ (67108864 : Int) < E2 + ((blen (val Y) : Nat) : Int) - 1 - E1 := by omega
    have HBG : Hid (blen (val Y) + g ≤ 2251799813631000) := hide (by omega)
    have HBS : Hid (blen (M1 + M2 * 2 ^ g).natAbs ≤ 2251799813631001) := hide (plus_blen (by rw [HMO.out.1]; omega) (by rw [HMO.out.2]; omega))
    have hgs : g ≤ 67108865 := by omega
    generalize hd : E2 + ((blen (val Y) : Nat) : Int) - 1 - E1 = d at *
    have hd2 : E2 + ((blen (val Y) : Nat) : Int) - 1 - E1 = d := hd
    clear hd hbx hby hbig hgap
    generalize hly : blen (val Y) = ly at *
    have HLY := hide hly
    clear hly
    generalize blen (val X) = l at *
    go_enter Tryz.func122, Tryz.ntmps122
    go_wp2_with fail
    refine HZ1.mono ?_
    rintro e t1 ⟨rfl, g1⟩
    have HG0 := hide (bl_trans8 HB.out g1)
    have HL0 := hide (block_upW g1 HK0.out)
    have HL1 := hide (block_upW g1 HK1.out)
    have HL2 := hide (block_upW g1 HK2.out)
    obtain ⟨l3, l4, l5⟩ := tri8 HL1.out
    have HZZ := HZ2.out t1
    clear g1 HZ1 HZ2 HK0 HK1 HK2 HB x0 x1 x2 x3 x4 x5
    go_wp2_with fail
    refine HZZ.mono ?_
    rintro e t2 ⟨rfl, g2⟩
    have HG := hide (bl_trans8 HG0.out g2)
    have HM0 := hide (block_upW g2 HL0.out)
    have HM1 := hide (block_upW g2 HL1.out)
    have HM2 := hide (block_upW g2 HL2.out)
    obtain ⟨l0, l1, l2⟩ := tri8 HM0.out
    obtain ⟨l3, l4, l5⟩ := tri8 HM1.out
    clear g2 HZZ HL0 HL1 HL2 HG0
    have g0 : Below t2.drew.heap.size t2.drew t2.drew := Below.refl _ _
    have gd : Below w.heap.size w t2.drew := HG.out.drew
    have HL := HLE.out t2.drew gd
    have HTQ := hide (fun (W : World) (hg : Below t2.drew.heap.size t2.drew W) => HTP.out W (bl_trans8 gd hg))
    have KS := hide (fun (W : World) (hg : Below t2.drew.heap.size t2.drew W) => show W.cell? ⟨w.heap.size, 0, none⟩ = some (.bool b1) ∧ W.cell? ⟨w.heap.size, 1, none⟩ = some (.slice a1 X.length c1) ∧ W.cell? ⟨w.heap.size, 2, none⟩ = some (.int .i64 E1) ∧ W.cell? ⟨w.heap.size + 1, 0, none⟩ = some (.bool b2) ∧ W.cell? ⟨w.heap.size + 1, 1, none⟩ = some (.slice a2 Y.length c2) ∧ W.cell? ⟨w.heap.size + 1, 2, none⟩ = some (.int .i64 E2) from by
      obtain ⟨y0, y1, y2⟩ := tri8 (block_upW hg (show t2.drew.heap[w.heap.size]? = some (.cells #[.bool b1, .slice a1 X.length c1, .int .i64 E1] 153) from HM0.out))
      obtain ⟨y3, y4, y5⟩ := tri8 (block_upW hg (show t2.drew.heap[w.heap.size + 1]? = some (.cells #[.bool b2, .slice a2 Y.length c2, .int .i64 E2] 153) from HM1.out))
      exact ⟨y0, y1, y2, y3, y4, y5⟩)
    obtain ⟨y0, y1, y2, y3, y4, y5⟩ := KS.out _ g0
    go_wp2
    go_region_held3 (fun w' => w'.cell? ⟨w.heap.size, 0, none⟩ = some (.bool b1) ∧ w'.cell? ⟨w.heap.size, 1, none⟩ = some (.slice a1 X.length c1) ∧ w'.cell? ⟨w.heap.size, 2, none⟩ = some (.int .i64 E1) ∧ w'.cell? ⟨w.heap.size + 1, 0, none⟩ = some (.bool b2) ∧ w'.cell? ⟨w.heap.size + 1, 1, none⟩ = some (.slice a2 Y.length c2) ∧ w'.cell? ⟨w.heap.size + 1, 2, none⟩ = some (.int .i64 E2)) (first | with_reducible exact KS.out _ g1 | with_reducible exact KS.out _ ga | with_reducible exact KS.out _ g0) (first
      | (go_at_call 138; refine HL.mono ?_; rintro e' t3 ⟨rfl, ga⟩; have i2 : decide ((l : Int) + 1 < (g : Int)) = true := dlt_true HI1.out)
      | (go_at_call 139; refine (HTQ.out t3 ga).mono ?_; rintro e' t3b ⟨rfl, hbt⟩; have g1 := bl_trans8 ga hbt))
    clear HTQ ga hbt
    rw [← HLY.out] at HBG
    have G3 := bl_trans8 gd g1
    have HQ0 := hide (block_upW g1 (show t2.drew.heap[w.heap.size]? = some (.cells #[.bool b1, .slice a1 X.length c1, .int .i64 E1] 153) from HM0.out))
    have HQ1 := hide (block_upW g1 (show t2.drew.heap[w.heap.size + 1]? = some (.cells #[.bool b2, .slice a2 Y.length c2, .int .i64 E2] 153) from HM1.out))
    have HQ2 := hide (block_upW g1 (show t2.drew.heap[w.heap.size + 1 + 1]? = some (.cells #[.bool false, .slice none 0 0, .int .i64 0] 153) from HM2.out))
    have HSH := yshifted_any _ Y (g : Int) t3b (HN2.out.arg.below G3) (by omega) (by omega) (by have := HBG.out; omega) HY0.out
    rw [fl_up] at HSH
    have HG3 := hide G3
    obtain ⟨l3, l4, l5⟩ := tri8 HQ1.out
    clear G3 gd g0 KS HL HM0 HM1 HM2 HG y0 y1 y2 y3 y4 y5 g1
    go_wp2_with fail
    refine HSH.mono ?_
    rintro e t4 ⟨⟨a4, n4, c4, r4, rfl, A4, hn4, v4, q4⟩, g4⟩
    have HV4 := hide (And.intro hn4 (And.intro v4 q4))
    have c1' := block_upW g4 HQ1.out
    have hfb := tri8f c1'
    obtain ⟨m3, m4, m5⟩ := tri8 c1'
    have d1 : (t4.setCell ⟨w.heap.size + 1, 1, none⟩ (.slice a4 n4 c4)).heap[w.heap.size + 1]? = some (.cells #[.bool b2, .slice a4 n4 c4, .int .i64 E2] 153) := box_modify (k := 1) c1' (.slice a4 n4 c4)
    have d0 : (t4.setCell ⟨w.heap.size + 1, 1, none⟩ (.slice a4 n4 c4)).heap[w.heap.size]? = some (.cells #[.bool b1, .slice a1 X.length c1, .int .i64 E1] 153) := by
      rw [Below.heap_setCell _ _ _ _ (by simp)]; exact block_upW g4 HQ0.out
    have d2 : (t4.setCell ⟨w.heap.size + 1, 1, none⟩ (.slice a4 n4 c4)).heap[w.heap.size + 1 + 1]? = some (.cells #[.bool false, .slice none 0 0, .int .i64 0] 153) := by
      rw [Below.heap_setCell _ _ _ _ (by simp)]; exact block_upW g4 HQ2.out
    have G5 : Below w.heap.size w (t4.setCell ⟨w.heap.size + 1, 1, none⟩ (.slice a4 n4 c4)) := (bl_trans8 HG3.out g4).setCell (p := ⟨w.heap.size + 1, 1, none⟩) (by show w.heap.size ≤ w.heap.size + 1; omega) _
    have A5 := A4.off8 (o := 1) (u := .slice a4 n4 c4) c1' (by decide)
    have hbr : blen (val r4) ≤ 2251799813632000 := by
      rw [v4, blen_shl _ _ HY0.out]; have := HBG.out; omega
    have hr4 : r4.length ≤ 35184372088000 := few_ofW q4 rfl (by omega)
    have HA5 := hide A5
    have HD := hide (And.intro d0 (And.intro d1 d2))
    have HG5 := hide G5
    clear c1' d0 d1 d2 G5 A4 A5 g4 HSH HQ0 HQ1 HQ2 HG3 hn4 v4 q4 hbr
    go_wp2
    obtain ⟨wS, hwS⟩ : ∃ wS, t4.setCell ⟨w.heap.size + 1, 1, none⟩ (.slice a4 n4 c4) = wS := ⟨_, rfl⟩
    rw [hwS] at HA5 HD HG5 ⊢
    obtain ⟨d0, d1, d2⟩ := HD.out
    have gdW : Below w.heap.size w wS.drew := HG5.out.drew
    have g0 : Below wS.drew.heap.size wS.drew wS.drew := Below.refl _ _
    obtain ⟨hn4, v4, q4⟩ := HV4.out
    have hnm : Nm wS.drew b2 (.slice a4 r4.length c4) r4 (M2 * 2 ^ g) := ⟨by
      have h9 := (HA5.out.arg (by omega)).below (Below.refl _ _).drew
      rw [hn4] at h9; exact h9, q4, by rw [v4, ← HN2.out.val, zz_pow]⟩
    have HTT := ytotal_any b1 a1 c1 X M1 b2 a4 c4 r4 (M2 * 2 ^ g) wS.drew (HN1.out.below gdW) hnm (by omega) (by omega)
    rw [← hn4] at HTT
    have KS := hide (fun (W : World) (hg : Below wS.drew.heap.size wS.drew W) => show W.cell? ⟨w.heap.size, 0, none⟩ = some (.bool b1) ∧ W.cell? ⟨w.heap.size, 1, none⟩ = some (.slice a1 X.length c1) ∧ W.cell? ⟨w.heap.size, 2, none⟩ = some (.int .i64 E1) ∧ W.cell? ⟨w.heap.size + 1, 0, none⟩ = some (.bool b2) ∧ W.cell? ⟨w.heap.size + 1, 1, none⟩ = some (.slice a4 n4 c4) from by
      obtain ⟨y0, y1, y2⟩ := tri8 (block_upW hg (show wS.drew.heap[w.heap.size]? = some (.cells #[.bool b1, .slice a1 X.length c1, .int .i64 E1] 153) from d0))
      obtain ⟨y3, y4, y5⟩ := tri8 (block_upW hg (show wS.drew.heap[w.heap.size + 1]? = some (.cells #[.bool b2, .slice a4 n4 c4, .int .i64 E2] 153) from d1))
      exact ⟨y0, y1, y2, y3, y4⟩)
    have so : ∀ (W : World) (k : Nat) (u : Value) (k' : Nat), (W.setCell ⟨w.heap.size + 1 + 1, k, none⟩ u).cell? ⟨w.heap.size, k', none⟩ = W.cell? ⟨w.heap.size, k', none⟩ := fun W k u k' => cell_other8 (by omega)
    have so2 : ∀ (W : World) (k : Nat) (u : Value) (k' : Nat), (W.setCell ⟨w.heap.size + 1 + 1, k, none⟩ u).cell? ⟨w.heap.size + 1, k', none⟩ = W.cell? ⟨w.heap.size + 1, k', none⟩ := fun W k u k' => cell_other8 (by omega)
    have H1 := hide (show wS.drew.heap[w.heap.size + 1 + 1]? = some (.cells #[.bool false, .slice none 0 0, .int .i64 0] 153) from d2)
    have HB := hide gdW
    obtain ⟨y0, y1, y2, y3, y4⟩ := KS.out _ g0
    clear d0 d1 d2 HD gdW hnm HA5 hn4 v4 q4 HG5 m3 m4 m5 hfb
    go_region_held3 (fun w' => w'.cell? ⟨w.heap.size, 0, none⟩ = some (.bool b1) ∧ w'.cell? ⟨w.heap.size, 1, none⟩ = some (.slice a1 X.length c1) ∧ w'.cell? ⟨w.heap.size, 2, none⟩ = some (.int .i64 E1) ∧ w'.cell? ⟨w.heap.size + 1, 0, none⟩ = some (.bool b2) ∧ w'.cell? ⟨w.heap.size + 1, 1, none⟩ = some (.slice a4 n4 c4)) (first | with_reducible exact KS.out _ g1 | with_reducible exact KS.out _ g0 | (refine ⟨?_, ?_, ?_, ?_, ?_⟩ <;> (first | rw [so, so, so] | rw [so2, so2, so2]) <;> first | exact (KS.out _ g1).1 | exact (KS.out _ g1).2.1 | exact (KS.out _ g1).2.2.1 | exact (KS.out _ g1).2.2.2.1 | exact (KS.out _ g1).2.2.2.2)) (first
      | (go_at_call 141; refine HTT.mono ?_; rintro e' t6 ⟨⟨b6, a6, n6, c6, r6, rfl, hn6, N6⟩, g1⟩; have HN6 := hide hn6; clear hn6; have hz := block_upW g1 H1.out; have hf := tri8f hz; obtain ⟨m0, m1, m2⟩ := tri8 hz))
    have T3 := tri8_all hz (.bool b6) (.slice a6 n6 c6) (.int .i64 E1)
    have T4 := below_tri8 (bl_trans8 HB.out g1) (show w.heap.size ≤ w.heap.size + 1 + 1 by omega) (.bool b6) (.slice a6 n6 c6) (.int .i64 E1)
    have T5 := N6.tri8 hz b6 a6 n6 c6 (.int .i64 E1)
    obtain ⟨p0, p1, p2⟩ := tri8 T3
    have HE := hide (And.intro T5 T4)
    clear T3 T4 T5 so so2 m0 m1 m2 hf KS g0 g1 HTT hz N6
    generalize ((t6.setCell ⟨w.heap.size + 1 + 1, 0, none⟩ (.bool b6)).setCell ⟨w.heap.size + 1 + 1, 1, none⟩ (.slice a6 n6 c6)).setCell ⟨w.heap.size + 1 + 1, 2, none⟩ (.int .i64 E1) = w5 at *
    go_wp2
    refine bodyPost_ret (v := .tuple #[.agg #[.bool b6, .slice a6 n6 c6, .int .i64 E1], .int .i64 0]) (by simp [results, Tryz.results122, go_sem, p0, p1, p2]) rfl ?_
    exact ⟨.inl ⟨_, _, _, _, r6, M1 + M2 * 2 ^ g, _, rfl, HN6.out, HE.out.1, rfl, rfl, by omega, by omega, HE.out.1.len 35184372088800 (by have := HBS.out; omega)⟩, HE.out.2⟩

end Go.Proofs.YtppkhhbhnhijpaaGreatDoor
