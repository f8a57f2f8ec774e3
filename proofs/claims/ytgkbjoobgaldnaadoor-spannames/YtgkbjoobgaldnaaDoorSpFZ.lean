/- The laws of span: awake. -/
import Derived.Test.YtgkbjoobgaldnaaDoorSpEZ
import Derived.Test.YtgkbjoobgaldnaaDoorQ9
import Derived.Deep.RegionHeld3
namespace Go.Proofs.YtgkbjoobgaldnaaDoor
open Go.RowKit
open Lm
attribute [local go_sem ↓] Go.wp_at_zero Go.wp_at_succ

theorem num10_any (c : Int) (w : World) : Calls Tryd.prog 4 #[.int .i64 c] w fun e w' => e = .returned (.int .i64 c) ∧ w' = w := by
  go_enter Tryd.func4, Tryd.ntmps4
  go_wp2
  go_ret
  exact ⟨rfl, rfl⟩

/-- An answer that is k, held against the document's k. -/
theorem G8.is10 {w0 : World} {b6 : Bool} {a6 : Option Addr} {n6 c6 : Nat} {e6 : Int} {L k : Nat} (hk : k < 9223372036854775808) (h : G8 w0 b6 a6 n6 c6 e6 L ((k : Int) * 2 ^ L)) :
    e6 = oe k 0 ∧ ∀ (W : World) (b : Bool) (a : Option Addr) (n c : Nat), Below w0.heap.size w0 W → Dn W b (.slice a n c) (omz k) → Calls Tryd.prog 9 #[.agg #[.bool b, .slice a n c, .int .i64 (oe k 0)], .bool b6, .slice a6 n6 c6, .int .i64 (oe k 0)] W fun e w' => e = .returned (.bool true) ∧ Below W.heap.size W w' := by
  obtain ⟨rs, rfl, hA, hl, hr, ht, hb, hn, hf⟩ := h
  have hr2 : Rp L (k : Int) 0 ((k : Int) * 2 ^ L) := ⟨by omega, by rw [show ((0 : Int) + (L : Int)).toNat = L by omega]⟩
  obtain ⟨e1, e2⟩ := Rp.one hr hr2.norm hn (nr8_of _ _)
  refine ⟨e2, fun W b a n c hg hd => ?_⟩
  have hbb : b = b6 := by rw [hd.1, hb, e1]
  subst hbb
  refine rdIs_any b a n c (omz k) (oe k 0) (.slice a6 rs.length c6) rs W hd (hA.below hg) ht (by rw [← e1, zz_abs]) ?_
  have h5 := blen_mono (od_le (k : Int).natAbs)
  have h6 : blen (k : Int).natAbs ≤ 64 := (blen_le_iff _ _).2 (by rw [Int.natAbs_natCast]; omega)
  rw [omz_abs]; omega

set_option maxRecDepth 20000 in
set_option maxHeartbeats 4000000 in
theorem awake10_any (w : World) (hT : Tab w) : Calls Tryd.prog 5 #[] w fun e w' => e = .returned (.bool true) ∧ Below w.heap.size w w' := by
  obtain ⟨L, hL⟩ : ∃ L : Nat, 4611686018427387904 ≤ L := ⟨_, Nat.le_refl _⟩
  have HL := hide hL
  have HT := hide hT
  have e1 : ((1 : Nat) : Int) * 2 ^ L + ((3 : Nat) : Int) * 2 ^ L = ((4 : Nat) : Int) * 2 ^ L := by rw [← Int.add_mul]; rfl
  have e2 : ((2 : Nat) : Int) * 2 ^ L + ((5 : Nat) : Int) * 2 ^ L = ((7 : Nat) : Int) * 2 ^ L := by rw [← Int.add_mul]; rfl
  have hp : (0 : Int) < 2 ^ L := Int.pow_pos (by decide)
  have l1 : ((1 : Nat) : Int) * 2 ^ L ≤ ((2 : Nat) : Int) * 2 ^ L := Int.mul_le_mul_of_nonneg_right (by omega) (by omega)
  have l2 : ((3 : Nat) : Int) * 2 ^ L ≤ ((5 : Nat) : Int) * 2 ^ L := Int.mul_le_mul_of_nonneg_right (by omega) (by omega)
  have ADD := hide (fun (W : World) (hg : Below w.heap.size w W) (a1 : Option Addr) (n1 k1 : Nat) (a2 : Option Addr) (n2 k2 : Nat) (a3 : Option Addr) (n3 k3 : Nat) (a4 : Option Addr) (n4 k4 : Nat) (h1 : I8 W false a1 n1 k1 0 L (((1 : Nat) : Int) * 2 ^ L)) (h2 : I8 W false a2 n2 k2 0 L (((2 : Nat) : Int) * 2 ^ L)) (h3 : I8 W false a3 n3 k3 0 L (((3 : Nat) : Int) * 2 ^ L)) (h4 : I8 W false a4 n4 k4 0 L (((5 : Nat) : Int) * 2 ^ L)) => (by
    have h := sadd_ok false a1 n1 k1 0 false a2 n2 k2 0 false a3 n3 k3 0 false a4 n4 k4 0 0 L _ _ _ _ W (hT.below hg) hL (by decide) h1 h2 h3 h4 (by decide) (by decide) (by decide) (by decide) l1 l2 (by rw [e1]; exact ok_small 4 L (by decide)) (by rw [e2]; exact ok_small 7 L (by decide)) (by rw [e1, rv_small]; exact ok_small 4 L (by decide)) (by rw [e2, rv_small]; exact ok_small 7 L (by decide))
    rw [e1, e2, rv_small, rv_small] at h
    exact h : Calls Tryd.prog 6 #[.agg #[.bool false, .slice a1 n1 k1, .int .i64 0, .bool false, .slice a2 n2 k2, .int .i64 0], .agg #[.bool false, .slice a3 n3 k3, .int .i64 0, .bool false, .slice a4 n4 k4, .int .i64 0], .int .i64 0] W fun e w' => SS8 W e w' L (((4 : Nat) : Int) * 2 ^ L) (((7 : Nat) : Int) * 2 ^ L)))
  have S1 := hide (fun (W : World) => show Calls Tryd.prog 7 #[.int .i64 1] W _ from small_any 1 L W (by decide))
  have S2 := hide (fun (W : World) => show Calls Tryd.prog 7 #[.int .i64 2] W _ from small_any 2 L W (by decide))
  have S3 := hide (fun (W : World) => show Calls Tryd.prog 7 #[.int .i64 3] W _ from small_any 3 L W (by decide))
  have S5 := hide (fun (W : World) => show Calls Tryd.prog 7 #[.int .i64 5] W _ from small_any 5 L W (by decide))
  clear hL hT e1 e2 hp l1 l2
  go_enter Tryd.func5, Tryd.ntmps5
  go_wp2_with fail
  refine (S1.out w).mono ?_
  rintro e t1 ⟨⟨a1, n1, k1, rfl, i1⟩, g1⟩
  have HI1 := hide i1
  have HG1 := hide g1
  clear i1 g1
  go_wp2_with fail
  refine (S2.out t1).mono ?_
  rintro e t2 ⟨⟨a2, n2, k2, rfl, i2⟩, g2⟩
  have HI2 := hide i2
  have HG2 := hide g2
  clear i2 g2
  go_wp2_with fail
  refine (S3.out t2).mono ?_
  rintro e t3 ⟨⟨a3, n3, k3, rfl, i3⟩, g3⟩
  have HI3 := hide i3
  have HG3 := hide g3
  clear i3 g3
  go_wp2_with fail
  refine (S5.out t3).mono ?_
  rintro e t4 ⟨⟨a4, n4, k4, rfl, i4⟩, g4⟩
  have G := bl_trans8 (bl_trans8 (bl_trans8 HG1.out HG2.out) HG3.out) g4
  have C := ADD.out t4 G a1 n1 k1 a2 n2 k2 a3 n3 k3 a4 n4 k4 (((HI1.out.below HG2.out).below HG3.out).below g4) ((HI2.out.below HG3.out).below g4) (HI3.out.below g4) i4
  have HG4 := hide G
  clear i4 g4 G S1 S2 S3 S5 ADD HI1 HI2 HI3 HG1 HG2 HG3
  go_wp2_with fail
  refine C.mono ?_
  rintro e t5 ⟨⟨b6, a6, n6, c6, e6, b7, a7, n7, c7, e7, rfl, hg1, hg2⟩, g5⟩
  obtain ⟨w6, hw6, hb6, q6⟩ := enter1 t5 (.cells #[.bool b6, .slice a6 n6 c6, .int .i64 e6, .bool b7, .slice a7 n7 c7, .int .i64 e7] 32)
  have gd : Below t5.heap.size t5 w6.drew := hb6.drew
  obtain ⟨he6, IS6⟩ := G8.is10 (k := 4) (by decide) (hg1.below gd)
  obtain ⟨he7, IS7⟩ := G8.is10 (k := 7) (by decide) (hg2.below gd)
  rw [← he6] at IS6
  rw [← he7] at IS7
  have HIS6 := hide IS6
  have HIS7 := hide IS7
  have HG5 := hide (bl_trans8 HG4.out g5)
  have HGD := hide (bl_trans8 HG5.out gd)
  have g0 : Below w6.drew.heap.size w6.drew w6.drew := Below.refl _ _
  have I4 := rdInt_any 4 0 w6.drew (by omega) (by omega) (by omega) (by omega)
  have I7 := hide (fun (W : World) => rdInt_any 7 0 W (by omega) (by omega) (by omega) (by omega))
  have HN := num10_any 0 w6.drew
  obtain ⟨M4, hM4⟩ : ∃ x, omz ((4 : Nat) : Int) = x := ⟨_, rfl⟩
  obtain ⟨M7, hM7⟩ : ∃ x, omz ((7 : Nat) : Int) = x := ⟨_, rfl⟩
  rw [show omz 4 = M4 from hM4, show oe 4 0 = e6 from he6.symm] at I4
  rw [show omz 7 = M7 from hM7, show oe 7 0 = e7 from he7.symm] at I7
  rw [hM4] at HIS6
  rw [hM7] at HIS7
  have KS := hide (fun (W : World) (hg : Below w6.drew.heap.size w6.drew W) => show W.cell? ⟨t5.heap.size, 0, none⟩ = some (.bool b6) ∧ W.cell? ⟨t5.heap.size, 1, none⟩ = some (.slice a6 n6 c6) ∧ W.cell? ⟨t5.heap.size, 2, none⟩ = some (.int .i64 e6) ∧ W.cell? ⟨t5.heap.size, 3, none⟩ = some (.bool b7) ∧ W.cell? ⟨t5.heap.size, 4, none⟩ = some (.slice a7 n7 c7) ∧ W.cell? ⟨t5.heap.size, 5, none⟩ = some (.int .i64 e7) from hexa (block_upW hg (show w6.drew.heap[t5.heap.size]? = some (.cells #[.bool b6, .slice a6 n6 c6, .int .i64 e6, .bool b7, .slice a7 n7 c7, .int .i64 e7] 32) from q6)))
  clear hg1 hg2 g5 hb6 q6 gd IS6 IS7 C hM4 hM7 he6 he7
  go_wp2_with fail
  go_region_held3 (fun w' => w'.cell? ⟨t5.heap.size, 0, none⟩ = some (.bool b6) ∧ w'.cell? ⟨t5.heap.size, 1, none⟩ = some (.slice a6 n6 c6) ∧ w'.cell? ⟨t5.heap.size, 2, none⟩ = some (.int .i64 e6) ∧ w'.cell? ⟨t5.heap.size, 3, none⟩ = some (.bool b7) ∧ w'.cell? ⟨t5.heap.size, 4, none⟩ = some (.slice a7 n7 c7) ∧ w'.cell? ⟨t5.heap.size, 5, none⟩ = some (.int .i64 e7)) (first | with_reducible exact KS.out _ h4 | with_reducible exact KS.out _ h3 | with_reducible exact KS.out _ h2 | with_reducible exact KS.out _ h1 | with_reducible exact KS.out _ g0) (first
    | (go_at_call 4; refine HN.mono ?_; rintro e' wn ⟨rfl, hw⟩; rw [hw]; clear hw wn)
    | (go_at_call_of 9 a7; refine (HIS7.out u3 b9 a9 n9 c9 h3 d9).mono ?_; rintro e' u4 ⟨rfl, hb4⟩; have h4 := bl_trans8 h3 hb4)
    | (go_at_call_of 9 a6; refine (HIS6.out u1 b8 a8 n8 c8 h1 d8).mono ?_; rintro e' u2 ⟨rfl, hb2⟩; have h2 := bl_trans8 h1 hb2)
    | (go_at_call_of 8 (Value.int .i64 4); refine I4.mono ?_; rintro e' u1 ⟨⟨b8, a8, n8, c8, rfl, d8⟩, h1⟩)
    | (go_at_call 8; refine (I7.out u2).mono ?_; rintro e' u3 ⟨⟨b9, a9, n9, c9, rfl, d9⟩, hb3⟩; have h3 := bl_trans8 h2 hb3))
  have HFIN := hide (bl_trans8 HGD.out h4)
  clear g0 h1 h2 h3 h4 hb2 hb3 hb4 KS I4 I7 HN d8 d9
  go_wp2
  go_ret
  exact ⟨rfl, HFIN.out⟩

end Go.Proofs.YtgkbjoobgaldnaaDoor
