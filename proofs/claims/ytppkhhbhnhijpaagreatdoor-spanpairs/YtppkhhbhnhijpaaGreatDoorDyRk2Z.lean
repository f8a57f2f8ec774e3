/- The document's Cmp of any two dyadics; Scale. -/
import Derived.Test.YtppkhhbhnhijpaaGreatDoorDyRkZ
namespace Go.Proofs.YtppkhhbhnhijpaaGreatDoor
open Go.RowKit
open Lm
attribute [local go_sem ↓] Go.wp_at_zero Go.wp_at_succ

set_option maxRecDepth 20000 in
set_option maxHeartbeats 4000000 in
theorem rdCmp_low (b1 : Bool) (a1 : Option Addr) (n1 c1 : Nat) (M1 E1 : Int) (b2 : Bool) (a2 : Option Addr) (n2 c2 : Nat) (M2 E2 : Int) (g : Nat) (w : World) (hD1 : Dn w b1 (.slice a1 n1 c1) M1) (hD2 : Dn w b2 (.slice a2 n2 c2) M2) (f1 : blen M1.natAbs ≤ 1125899906840000) (f2 : blen M2.natAbs ≤ 1125899906840000) (he1 : -1152921504606846976 ≤ E1) (he2 : E1 ≤ 1152921504606846976) (he3 : -1152921504606846976 ≤ E2) (he4 : E2 ≤ 1152921504606846976) (hs : M1.sign = M2.sign) (h0 : M1.sign ≠ 0) (ht : ((blen M1.natAbs : Nat) : Int) - 1 + E1 = ((blen M2.natAbs : Nat) : Int) - 1 + E2) (hg9 : E2 - E1 = (g : Int)) :
    Calls Tryz.prog 35 #[.agg #[.bool b1, .slice a1 n1 c1, .int .i64 E1], .agg #[.bool b2, .slice a2 n2 c2, .int .i64 E2]] w fun e w' => e = .returned (.int .i64 (cmpZ M1 (M2 * 2 ^ g))) ∧ Below w.heap.size w w' := by
  obtain ⟨w0, hw0, hb0, k0, k1⟩ := enter2 w (.cells #[.bool b1, .slice a1 n1 c1, .int .i64 E1] 45) (.cells #[.bool b2, .slice a2 n2 c2, .int .i64 E2] 45)
  have gd : Below w.heap.size w w0.drew := hb0.drew
  have SG1 := hide (fun (W : World) (hg : Below w0.drew.heap.size w0.drew W) => rzsign_any (.agg #[.bool b1, .slice a1 n1 c1]) M1 W ((hD1.below gd).below hg).zn)
  have SG2 := hide (fun (W : World) (hg : Below w0.drew.heap.size w0.drew W) => rzsign_any (.agg #[.bool b2, .slice a2 n2 c2]) M2 W ((hD2.below gd).below hg).zn)
  have TP1 := hide (fun (W : World) (hg : Below w0.drew.heap.size w0.drew W) => rdTop_any b1 a1 n1 c1 M1 E1 W ((hD1.below gd).below hg) (by omega) (by omega) (by omega))
  have TP2 := hide (fun (W : World) (hg : Below w0.drew.heap.size w0.drew W) => rdTop_any b2 a2 n2 c2 M2 E2 W ((hD2.below gd).below hg) (by omega) (by omega) (by omega))
  have HD1 := hide (hD1.below gd)
  have HD2 := hide (hD2.below gd)
  have KB := hide (fun (W : World) (hg : Below w0.drew.heap.size w0.drew W) => And.intro (block_upW hg (show w0.drew.heap[w.heap.size]? = some (.cells #[.bool b1, .slice a1 n1 c1, .int .i64 E1] 45) from k0)) (block_upW hg (show w0.drew.heap[w.heap.size + 1]? = some (.cells #[.bool b2, .slice a2 n2 c2, .int .i64 E2] 45) from k1)))
  have KS := hide (fun (W : World) (hg : Below w0.drew.heap.size w0.drew W) => show W.cell? ⟨w.heap.size, 0, none⟩ = some (.bool b1) ∧ W.cell? ⟨w.heap.size, 1, none⟩ = some (.slice a1 n1 c1) ∧ W.cell? ⟨w.heap.size, 2, none⟩ = some (.int .i64 E1) ∧ W.cell? ⟨w.heap.size + 1, 0, none⟩ = some (.bool b2) ∧ W.cell? ⟨w.heap.size + 1, 1, none⟩ = some (.slice a2 n2 c2) ∧ W.cell? ⟨w.heap.size + 1, 2, none⟩ = some (.int .i64 E2) from ⟨(tri8 (KB.out W hg).1).1, (tri8 (KB.out W hg).1).2.1, (tri8 (KB.out W hg).1).2.2, (tri8 (KB.out W hg).2).1, (tri8 (KB.out W hg).2).2.1, (tri8 (KB.out W hg).2).2.2⟩)
  have g0 : Below w0.drew.heap.size w0.drew w0.drew := Below.refl _ _
  have HGD := hide gd
  clear k0 k1 hb0 gd hD1 hD2
  have SHF := hide (fun (W : World) (hg : Below w0.drew.heap.size w0.drew W) => rzshift_any b2 a2 n2 c2 M2 g W (HD2.out.below hg).zn (by omega))
  rw [← hs] at SG2
  rw [← ht] at TP2
  have htt : (((blen M1.natAbs : Nat) : Int) - 1 + E1 != ((blen M1.natAbs : Nat) : Int) - 1 + E1) = false := by simp
  have htd : E1 ≤ E2 := by omega
  have htd2 : decide (E1 ≤ E2) = true := decide_eq_true htd
  have hwr : IntKind.i64.wrap (E2 - E1) = (g : Int) := by rw [hg9, IntKind.wrap_i64]; omega
  generalize ((blen M1.natAbs : Nat) : Int) - 1 + E1 = T1 at *
  have h0b : (M1.sign == 0) = false := beq_eq_false_iff_ne.2 h0
  have hxx : (M1.sign != M1.sign) = false := by simp
  generalize M1.sign = x at *
  have HG9 := hide hg9
  clear hs ht h0 hg9
  go_enter Tryz.func35, Tryz.ntmps35
  go_wp2_with fail
  go_region_held3 (fun w' => w'.cell? ⟨w.heap.size, 0, none⟩ = some (.bool b1) ∧ w'.cell? ⟨w.heap.size, 1, none⟩ = some (.slice a1 n1 c1) ∧ w'.cell? ⟨w.heap.size, 2, none⟩ = some (.int .i64 E1) ∧ w'.cell? ⟨w.heap.size + 1, 0, none⟩ = some (.bool b2) ∧ w'.cell? ⟨w.heap.size + 1, 1, none⟩ = some (.slice a2 n2 c2) ∧ w'.cell? ⟨w.heap.size + 1, 2, none⟩ = some (.int .i64 E2)) (first | with_reducible exact KS.out _ g2 | with_reducible exact KS.out _ g1 | with_reducible exact KS.out _ g0) (first
    | (go_at_call_of 63 a1; refine (SG1.out _ g0).mono ?_; rintro e' t1 ⟨rfl, hb1⟩; have g1 := bl_trans8 g0 hb1)
    | (go_at_call_of 63 a2; refine (SG2.out _ g1).mono ?_; rintro e' t2 ⟨rfl, hb2⟩; have g2 := bl_trans8 g1 hb2))
  clear hb1 hb2
  have h0a : Below t2.heap.size t2 t2.drew := (Below.refl _ _).drew
  have g3 := bl_trans8 g2 h0a
  obtain ⟨ca0, cb0, cc0⟩ := tri8 (KB.out _ g3).1
  obtain ⟨ca1, cb1, cc1⟩ := tri8 (KB.out _ g3).2
  clear h0a
  go_wp2_with fail
  go_region_held3 (fun w' => w'.cell? ⟨w.heap.size, 0, none⟩ = some (.bool b1) ∧ w'.cell? ⟨w.heap.size, 1, none⟩ = some (.slice a1 n1 c1) ∧ w'.cell? ⟨w.heap.size, 2, none⟩ = some (.int .i64 E1) ∧ w'.cell? ⟨w.heap.size + 1, 0, none⟩ = some (.bool b2) ∧ w'.cell? ⟨w.heap.size + 1, 1, none⟩ = some (.slice a2 n2 c2) ∧ w'.cell? ⟨w.heap.size + 1, 2, none⟩ = some (.int .i64 E2)) (first | with_reducible exact KS.out _ g5 | with_reducible exact KS.out _ g4 | with_reducible exact KS.out _ g3) (first
    | (go_at_call_of 64 a1; refine (TP1.out _ g3).mono ?_; rintro e' t4 ⟨rfl, hb4⟩; have g4 := bl_trans8 g3 hb4)
    | (go_at_call_of 64 a2; refine (TP2.out _ g4).mono ?_; rintro e' t5 ⟨rfl, hb5⟩; have g5 := bl_trans8 g4 hb5))
  clear hb4 hb5 ca0 cb0 cc0 ca1 cb1 cc1
  clear g0 g1 g2
  have HG5 := hide g5
  clear g3 g4 g5
  obtain ⟨da0, db0, dc0⟩ := tri8 (KB.out _ HG5.out).1
  obtain ⟨da1, db1, dc1⟩ := tri8 (KB.out _ HG5.out).2
  go_wp2_with fail
  have h0a : Below t5.heap.size t5 t5.drew := (Below.refl _ _).drew
  have g7 := bl_trans8 HG5.out h0a
  obtain ⟨ca0, cb0, cc0⟩ := tri8 (KB.out _ g7).1
  obtain ⟨ca1, cb1, cc1⟩ := tri8 (KB.out _ g7).2
  clear h0a da0 db0 dc0 da1 db1 dc1
  go_region_held3 (fun w' => w'.cell? ⟨w.heap.size, 0, none⟩ = some (.bool b1) ∧ w'.cell? ⟨w.heap.size, 1, none⟩ = some (.slice a1 n1 c1) ∧ w'.cell? ⟨w.heap.size, 2, none⟩ = some (.int .i64 E1) ∧ w'.cell? ⟨w.heap.size + 1, 0, none⟩ = some (.bool b2) ∧ w'.cell? ⟨w.heap.size + 1, 1, none⟩ = some (.slice a2 n2 c2) ∧ w'.cell? ⟨w.heap.size + 1, 2, none⟩ = some (.int .i64 E2)) (first | with_reducible exact KS.out _ g9 | with_reducible exact KS.out _ g8 | with_reducible exact KS.out _ g7) (first
    | (go_at_call 65; refine (rzcmp_any (.agg #[.bool b1, .slice a1 n1 c1]) (.agg #[.bool b8, .slice a8 n8 k8]) M1 (M2 * 2 ^ g) _ (HD1.out.below g8).zn y8).mono ?_; rintro e' t9 ⟨rfl, hb9⟩; have g9 := bl_trans8 g8 hb9)
    | (go_at_call 66; refine (SHF.out _ g7).mono ?_; rintro e' t8 ⟨⟨b8, a8, n8, k8, rfl, y8⟩, hb8⟩; have g8 := bl_trans8 g7 hb8))
  have HE := hide (bl_trans8 HGD.out g9)
  clear g7 g8 g9 hb8 hb9 ca0 cb0 cc0 ca1 cb1 cc1
  go_wp2
  go_ret
  exact ⟨rfl, HE.out⟩

set_option maxRecDepth 20000 in
set_option maxHeartbeats 4000000 in
theorem rdCmp_high (b1 : Bool) (a1 : Option Addr) (n1 c1 : Nat) (M1 E1 : Int) (b2 : Bool) (a2 : Option Addr) (n2 c2 : Nat) (M2 E2 : Int) (g : Nat) (w : World) (hD1 : Dn w b1 (.slice a1 n1 c1) M1) (hD2 : Dn w b2 (.slice a2 n2 c2) M2) (f1 : blen M1.natAbs ≤ 1125899906840000) (f2 : blen M2.natAbs ≤ 1125899906840000) (he1 : -1152921504606846976 ≤ E1) (he2 : E1 ≤ 1152921504606846976) (he3 : -1152921504606846976 ≤ E2) (he4 : E2 ≤ 1152921504606846976) (hs : M1.sign = M2.sign) (h0 : M1.sign ≠ 0) (ht : ((blen M1.natAbs : Nat) : Int) - 1 + E1 = ((blen M2.natAbs : Nat) : Int) - 1 + E2) (hg9 : E1 - E2 = (g : Int)) (hg0 : 0 < g) :
    Calls Tryz.prog 35 #[.agg #[.bool b1, .slice a1 n1 c1, .int .i64 E1], .agg #[.bool b2, .slice a2 n2 c2, .int .i64 E2]] w fun e w' => e = .returned (.int .i64 (cmpZ (M1 * 2 ^ g) M2)) ∧ Below w.heap.size w w' := by
  obtain ⟨w0, hw0, hb0, k0, k1⟩ := enter2 w (.cells #[.bool b1, .slice a1 n1 c1, .int .i64 E1] 45) (.cells #[.bool b2, .slice a2 n2 c2, .int .i64 E2] 45)
  have gd : Below w.heap.size w w0.drew := hb0.drew
  have SG1 := hide (fun (W : World) (hg : Below w0.drew.heap.size w0.drew W) => rzsign_any (.agg #[.bool b1, .slice a1 n1 c1]) M1 W ((hD1.below gd).below hg).zn)
  have SG2 := hide (fun (W : World) (hg : Below w0.drew.heap.size w0.drew W) => rzsign_any (.agg #[.bool b2, .slice a2 n2 c2]) M2 W ((hD2.below gd).below hg).zn)
  have TP1 := hide (fun (W : World) (hg : Below w0.drew.heap.size w0.drew W) => rdTop_any b1 a1 n1 c1 M1 E1 W ((hD1.below gd).below hg) (by omega) (by omega) (by omega))
  have TP2 := hide (fun (W : World) (hg : Below w0.drew.heap.size w0.drew W) => rdTop_any b2 a2 n2 c2 M2 E2 W ((hD2.below gd).below hg) (by omega) (by omega) (by omega))
  have HD1 := hide (hD1.below gd)
  have HD2 := hide (hD2.below gd)
  have KB := hide (fun (W : World) (hg : Below w0.drew.heap.size w0.drew W) => And.intro (block_upW hg (show w0.drew.heap[w.heap.size]? = some (.cells #[.bool b1, .slice a1 n1 c1, .int .i64 E1] 45) from k0)) (block_upW hg (show w0.drew.heap[w.heap.size + 1]? = some (.cells #[.bool b2, .slice a2 n2 c2, .int .i64 E2] 45) from k1)))
  have KS := hide (fun (W : World) (hg : Below w0.drew.heap.size w0.drew W) => show W.cell? ⟨w.heap.size, 0, none⟩ = some (.bool b1) ∧ W.cell? ⟨w.heap.size, 1, none⟩ = some (.slice a1 n1 c1) ∧ W.cell? ⟨w.heap.size, 2, none⟩ = some (.int .i64 E1) ∧ W.cell? ⟨w.heap.size + 1, 0, none⟩ = some (.bool b2) ∧ W.cell? ⟨w.heap.size + 1, 1, none⟩ = some (.slice a2 n2 c2) ∧ W.cell? ⟨w.heap.size + 1, 2, none⟩ = some (.int .i64 E2) from ⟨(tri8 (KB.out W hg).1).1, (tri8 (KB.out W hg).1).2.1, (tri8 (KB.out W hg).1).2.2, (tri8 (KB.out W hg).2).1, (tri8 (KB.out W hg).2).2.1, (tri8 (KB.out W hg).2).2.2⟩)
  have g0 : Below w0.drew.heap.size w0.drew w0.drew := Below.refl _ _
  have HGD := hide gd
  clear k0 k1 hb0 gd hD1 hD2
  have SHF := hide (fun (W : World) (hg : Below w0.drew.heap.size w0.drew W) => rzshift_any b1 a1 n1 c1 M1 g W (HD1.out.below hg).zn (by omega))
  rw [← hs] at SG2
  rw [← ht] at TP2
  have htt : (((blen M1.natAbs : Nat) : Int) - 1 + E1 != ((blen M1.natAbs : Nat) : Int) - 1 + E1) = false := by simp
  have htd : ¬ E1 ≤ E2 := by omega
  have htd2 : decide (E1 ≤ E2) = false := decide_eq_false htd
  have hwr : IntKind.i64.wrap (E1 - E2) = (g : Int) := by rw [hg9, IntKind.wrap_i64]; omega
  generalize ((blen M1.natAbs : Nat) : Int) - 1 + E1 = T1 at *
  have h0b : (M1.sign == 0) = false := beq_eq_false_iff_ne.2 h0
  have hxx : (M1.sign != M1.sign) = false := by simp
  generalize M1.sign = x at *
  have HG9 := hide hg9
  clear hs ht h0 hg9
  go_enter Tryz.func35, Tryz.ntmps35
  go_wp2_with fail
  go_region_held3 (fun w' => w'.cell? ⟨w.heap.size, 0, none⟩ = some (.bool b1) ∧ w'.cell? ⟨w.heap.size, 1, none⟩ = some (.slice a1 n1 c1) ∧ w'.cell? ⟨w.heap.size, 2, none⟩ = some (.int .i64 E1) ∧ w'.cell? ⟨w.heap.size + 1, 0, none⟩ = some (.bool b2) ∧ w'.cell? ⟨w.heap.size + 1, 1, none⟩ = some (.slice a2 n2 c2) ∧ w'.cell? ⟨w.heap.size + 1, 2, none⟩ = some (.int .i64 E2)) (first | with_reducible exact KS.out _ g2 | with_reducible exact KS.out _ g1 | with_reducible exact KS.out _ g0) (first
    | (go_at_call_of 63 a1; refine (SG1.out _ g0).mono ?_; rintro e' t1 ⟨rfl, hb1⟩; have g1 := bl_trans8 g0 hb1)
    | (go_at_call_of 63 a2; refine (SG2.out _ g1).mono ?_; rintro e' t2 ⟨rfl, hb2⟩; have g2 := bl_trans8 g1 hb2))
  clear hb1 hb2
  have h0a : Below t2.heap.size t2 t2.drew := (Below.refl _ _).drew
  have g3 := bl_trans8 g2 h0a
  obtain ⟨ca0, cb0, cc0⟩ := tri8 (KB.out _ g3).1
  obtain ⟨ca1, cb1, cc1⟩ := tri8 (KB.out _ g3).2
  clear h0a
  go_wp2_with fail
  go_region_held3 (fun w' => w'.cell? ⟨w.heap.size, 0, none⟩ = some (.bool b1) ∧ w'.cell? ⟨w.heap.size, 1, none⟩ = some (.slice a1 n1 c1) ∧ w'.cell? ⟨w.heap.size, 2, none⟩ = some (.int .i64 E1) ∧ w'.cell? ⟨w.heap.size + 1, 0, none⟩ = some (.bool b2) ∧ w'.cell? ⟨w.heap.size + 1, 1, none⟩ = some (.slice a2 n2 c2) ∧ w'.cell? ⟨w.heap.size + 1, 2, none⟩ = some (.int .i64 E2)) (first | with_reducible exact KS.out _ g5 | with_reducible exact KS.out _ g4 | with_reducible exact KS.out _ g3) (first
    | (go_at_call_of 64 a1; refine (TP1.out _ g3).mono ?_; rintro e' t4 ⟨rfl, hb4⟩; have g4 := bl_trans8 g3 hb4)
    | (go_at_call_of 64 a2; refine (TP2.out _ g4).mono ?_; rintro e' t5 ⟨rfl, hb5⟩; have g5 := bl_trans8 g4 hb5))
  clear hb4 hb5 ca0 cb0 cc0 ca1 cb1 cc1
  clear g0 g1 g2
  have HG5 := hide g5
  clear g3 g4 g5
  obtain ⟨da0, db0, dc0⟩ := tri8 (KB.out _ HG5.out).1
  obtain ⟨da1, db1, dc1⟩ := tri8 (KB.out _ HG5.out).2
  go_wp2_with fail
  have h0a : Below t5.heap.size t5 t5.drew := (Below.refl _ _).drew
  have g7 := bl_trans8 HG5.out h0a
  obtain ⟨ca0, cb0, cc0⟩ := tri8 (KB.out _ g7).1
  obtain ⟨ca1, cb1, cc1⟩ := tri8 (KB.out _ g7).2
  clear h0a da0 db0 dc0 da1 db1 dc1
  go_region_held3 (fun w' => w'.cell? ⟨w.heap.size, 0, none⟩ = some (.bool b1) ∧ w'.cell? ⟨w.heap.size, 1, none⟩ = some (.slice a1 n1 c1) ∧ w'.cell? ⟨w.heap.size, 2, none⟩ = some (.int .i64 E1) ∧ w'.cell? ⟨w.heap.size + 1, 0, none⟩ = some (.bool b2) ∧ w'.cell? ⟨w.heap.size + 1, 1, none⟩ = some (.slice a2 n2 c2) ∧ w'.cell? ⟨w.heap.size + 1, 2, none⟩ = some (.int .i64 E2)) (first | with_reducible exact KS.out _ g9 | with_reducible exact KS.out _ g8 | with_reducible exact KS.out _ g7) (first
    | (go_at_call 65; refine (rzcmp_any (.agg #[.bool b8, .slice a8 n8 k8]) (.agg #[.bool b2, .slice a2 n2 c2]) (M1 * 2 ^ g) M2 _ y8 (HD2.out.below g8).zn).mono ?_; rintro e' t9 ⟨rfl, hb9⟩; have g9 := bl_trans8 g8 hb9)
    | (go_at_call 66; refine (SHF.out _ g7).mono ?_; rintro e' t8 ⟨⟨b8, a8, n8, k8, rfl, y8⟩, hb8⟩; have g8 := bl_trans8 g7 hb8))
  have HE := hide (bl_trans8 HGD.out g9)
  clear g7 g8 g9 hb8 hb9 ca0 cb0 cc0 ca1 cb1 cc1
  go_wp2
  go_ret
  exact ⟨rfl, HE.out⟩

theorem rdCmp_any (b1 : Bool) (a1 : Option Addr) (n1 c1 : Nat) (M1 E1 : Int) (b2 : Bool) (a2 : Option Addr) (n2 c2 : Nat) (M2 E2 : Int) (L p q : Nat) (w : World) (hD1 : Dn w b1 (.slice a1 n1 c1) M1) (hD2 : Dn w b2 (.slice a2 n2 c2) M2) (f1 : blen M1.natAbs ≤ 1125899906840000) (f2 : blen M2.natAbs ≤ 1125899906840000) (he1 : -1152921504606846976 ≤ E1) (he2 : E1 ≤ 1152921504606846976) (he3 : -1152921504606846976 ≤ E2) (he4 : E2 ≤ 1152921504606846976) (hp : (p : Int) = E1 + L) (hq : (q : Int) = E2 + L) :
    Calls Tryz.prog 35 #[.agg #[.bool b1, .slice a1 n1 c1, .int .i64 E1], .agg #[.bool b2, .slice a2 n2 c2, .int .i64 E2]] w fun e w' => e = .returned (.int .i64 (cmpZ (M1 * 2 ^ p) (M2 * 2 ^ q))) ∧ Below w.heap.size w w' := by
  by_cases hs : M1.sign = M2.sign
  · by_cases h0 : M1.sign = 0
    · have z1 : M1 = 0 := by have := sign_vals9 M1; omega
      have z2 : M2 = 0 := by have := sign_vals9 M2; omega
      have e : cmpZ (M1 * 2 ^ p) (M2 * 2 ^ q) = 0 := by rw [z1, z2, Int.zero_mul, Int.zero_mul]; rfl
      rw [e]
      exact rdCmp_zero b1 a1 n1 c1 M1 E1 b2 a2 n2 c2 M2 E2 w hD1 hD2 f1 f2 he1 he2 he3 he4 hs h0
    · by_cases ht : ((blen M1.natAbs : Nat) : Int) - 1 + E1 = ((blen M2.natAbs : Nat) : Int) - 1 + E2
      · by_cases hle : E1 ≤ E2
        · obtain ⟨g, hg⟩ : ∃ g : Nat, E2 - E1 = (g : Int) := ⟨(E2 - E1).toNat, by omega⟩
          have e : cmpZ (M1 * 2 ^ p) (M2 * 2 ^ q) = cmpZ M1 (M2 * 2 ^ g) := by
            rw [show q = g + p by omega, Int.pow_add, ← Int.mul_assoc, cmpZ_mul9 (pos_pow9 p)]
          rw [e]
          exact rdCmp_low b1 a1 n1 c1 M1 E1 b2 a2 n2 c2 M2 E2 g w hD1 hD2 f1 f2 he1 he2 he3 he4 hs h0 ht hg
        · obtain ⟨g, hg⟩ : ∃ g : Nat, E1 - E2 = (g : Int) := ⟨(E1 - E2).toNat, by omega⟩
          have e : cmpZ (M1 * 2 ^ p) (M2 * 2 ^ q) = cmpZ (M1 * 2 ^ g) M2 := by
            rw [show p = g + q by omega, Int.pow_add, ← Int.mul_assoc, cmpZ_mul9 (pos_pow9 q)]
          rw [e]
          exact rdCmp_high b1 a1 n1 c1 M1 E1 b2 a2 n2 c2 M2 E2 g w hD1 hD2 f1 f2 he1 he2 he3 he4 hs h0 ht hg (by omega)
      · rw [cmp_tops9 hs h0 (by omega)]
        have e : (blen M1.natAbs + p < blen M2.natAbs + q) ↔ ((blen M1.natAbs : Nat) : Int) - 1 + E1 < ((blen M2.natAbs : Nat) : Int) - 1 + E2 := by omega
        simp only [e]
        exact rdCmp_tops b1 a1 n1 c1 M1 E1 b2 a2 n2 c2 M2 E2 w hD1 hD2 f1 f2 he1 he2 he3 he4 hs h0 ht
  · have hs2 : (M1 * 2 ^ p).sign ≠ (M2 * 2 ^ q).sign := by rw [sign_mul9, sign_mul9]; exact hs
    rw [cmp_signs9 hs2, sign_mul9, sign_mul9]
    exact rdCmp_signs b1 a1 n1 c1 M1 E1 b2 a2 n2 c2 M2 E2 w hD1 hD2 f1 f2 he1 he2 he3 he4 hs

set_option maxRecDepth 20000 in
set_option maxHeartbeats 4000000 in
theorem rdScale_any (b : Bool) (a : Option Addr) (n c : Nat) (M E k : Int) (w : World) (h : Dn w b (.slice a n c) M) (hw : M ≠ 0 → -9223372036854775808 ≤ E + k ∧ E + k ≤ 9223372036854775807) :
    Calls Tryz.prog 75 #[.agg #[.bool b, .slice a n c, .int .i64 E], .int .i64 k] w (DnDone w M (if M = 0 then E else E + k)) := by
  obtain ⟨w0, hw0, hb0, h0, h1⟩ := enter2 w (.cells #[.bool b, .slice a n c, .int .i64 E] 45) (.cells #[.bool false, .slice none 0 0, .int .i64 0] 45)
  obtain ⟨k0, k1, k2⟩ := tri8 h0
  have SG := rzsign_any (.agg #[.bool b, .slice a n c]) M w0 (h.below hb0).zn
  have HK0 := hide h0
  have HK1 := hide h1
  have HB := hide hb0
  have HD := hide h
  clear h0 h1 hb0 h
  have hsv := sign_vals9 M
  by_cases hM : M = 0
  · rw [if_pos hM]
    have e : M.sign = 0 := by omega
    rw [e] at SG
    clear hsv e hw
    go_enter Tryz.func75, Tryz.ntmps75
    go_wp2_with fail
    refine SG.mono ?_
    rintro e t1 ⟨rfl, g1⟩
    have HC1 := hide (block_upW g1 HK1.out)
    have HG := hide (bl_trans8 HB.out g1)
    have HDN := hide (HD.out.below HG.out)
    have hf1 := tri8f HC1.out
    obtain ⟨m0, m1, m2⟩ := tri8 HC1.out
    obtain ⟨l0, l1, l2⟩ := tri8 (block_upW g1 HK0.out)
    clear g1 SG k0 k1 k2
    go_wp2
    have T3 := tri8_all HC1.out (.bool b) (.slice a n c) (.int .i64 E)
    have T4 := below_tri8 HG.out (show w.heap.size ≤ w.heap.size + 1 by omega) (.bool b) (.slice a n c) (.int .i64 E)
    have T5 := HDN.out.tri8 HC1.out b a n c (.int .i64 E)
    obtain ⟨p0, p1, p2⟩ := tri8 T3
    have HE := hide (And.intro T5 T4)
    clear T3 T4 T5
    generalize ((t1.setCell ⟨w.heap.size + 1, 0, none⟩ (.bool b)).setCell ⟨w.heap.size + 1, 1, none⟩ (.slice a n c)).setCell ⟨w.heap.size + 1, 2, none⟩ (.int .i64 E) = w5 at *
    refine bodyPost_ret (v := .agg #[.bool b, .slice a n c, .int .i64 E]) (by simp [results, Tryz.results75, go_sem, p0, p1, p2]) rfl ?_
    exact ⟨⟨_, _, _, _, rfl, HE.out.1⟩, HE.out.2⟩
  · rw [if_neg hM]
    have hwr : IntKind.i64.wrap (E + k) = E + k := by have := hw hM; rw [IntKind.wrap_i64]; omega
    have e : M.sign ≠ 0 := by omega
    clear hw
    have e2 : (M.sign == 0) = false := beq_eq_false_iff_ne.2 e
    obtain ⟨es, hes⟩ : ∃ es, E + k = es := ⟨_, rfl⟩
    rw [hes] at hwr
    have hes2 : E + k = es := hes
    rw [hes]
    generalize M.sign = x at *
    clear hsv e hes
    go_enter Tryz.func75, Tryz.ntmps75
    go_wp2_with fail
    refine SG.mono ?_
    rintro e t1 ⟨rfl, g1⟩
    have HC1 := hide (block_upW g1 HK1.out)
    have HG := hide (bl_trans8 HB.out g1)
    have HDN := hide (HD.out.below HG.out)
    have hf1 := tri8f HC1.out
    obtain ⟨m0, m1, m2⟩ := tri8 HC1.out
    obtain ⟨l0, l1, l2⟩ := tri8 (block_upW g1 HK0.out)
    clear g1 SG k0 k1 k2
    go_wp2
    have T3 := tri8_all HC1.out (.bool b) (.slice a n c) (.int .i64 es)
    have T4 := below_tri8 HG.out (show w.heap.size ≤ w.heap.size + 1 by omega) (.bool b) (.slice a n c) (.int .i64 es)
    have T5 := HDN.out.tri8 HC1.out b a n c (.int .i64 es)
    obtain ⟨p0, p1, p2⟩ := tri8 T3
    have HE := hide (And.intro T5 T4)
    clear T3 T4 T5
    generalize ((t1.setCell ⟨w.heap.size + 1, 0, none⟩ (.bool b)).setCell ⟨w.heap.size + 1, 1, none⟩ (.slice a n c)).setCell ⟨w.heap.size + 1, 2, none⟩ (.int .i64 es) = w5 at *
    refine bodyPost_ret (v := .agg #[.bool b, .slice a n c, .int .i64 es]) (by simp [results, Tryz.results75, go_sem, p0, p1, p2]) rfl ?_
    exact ⟨⟨_, _, _, _, rfl, HE.out.1⟩, HE.out.2⟩

end Go.Proofs.YtppkhhbhnhijpaaGreatDoor
