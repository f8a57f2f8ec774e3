/- The document's Add of two dyadics that are not 0. -/
import Derived.Test.YtemajaclpkgpbaaDoorDyRbZ
namespace Go.Proofs.YtemajaclpkgpbaaDoor
open Go.RowKit
open Lm
attribute [local go_sem ↓] Go.wp_at_zero Go.wp_at_succ

set_option maxRecDepth 20000 in
set_option maxHeartbeats 2000000 in
theorem rdAdd_lt (b1 : Bool) (a1 : Option Addr) (n1 c1 : Nat) (M1 E1 : Int) (b2 : Bool) (a2 : Option Addr) (n2 c2 : Nat) (M2 E2 : Int) (g : Nat) (w : World) (hD1 : Dn w b1 (.slice a1 n1 c1) M1) (hD2 : Dn w b2 (.slice a2 n2 c2) M2) (hM1 : M1 ≠ 0) (hM2 : M2 ≠ 0) (hodd : M1.natAbs % 2 = 1) (hg : E2 - E1 = (g : Int)) (hgp : 0 < g) (f1 : blen M1.natAbs ≤ 4000000000000) (f2 : blen M2.natAbs ≤ 4000000000000) (he1 : -1152921504606846976 ≤ E1) (he2 : E1 ≤ 1152921504606846976) (he3 : -1152921504606846976 ≤ E2) (he4 : E2 ≤ 1152921504606846976) :
    Calls Tryd.prog 38 #[.agg #[.bool b1, .slice a1 n1 c1, .int .i64 E1], .agg #[.bool b2, .slice a2 n2 c2, .int .i64 E2]] w (AddK w (blen M1.natAbs) (omz (M1 + M2 * 2 ^ g)) (oe (M1 + M2 * 2 ^ g) E1)) := by
  obtain ⟨w0, hw0, hb0, h0, h1, h2⟩ := enter3 w (.cells #[.bool b1, .slice a1 n1 c1, .int .i64 E1] 36) (.cells #[.bool b2, .slice a2 n2 c2, .int .i64 E2] 36) (.cells #[.bool false, .slice none 0 0, .int .i64 0] 36)
  obtain ⟨x0, x1, x2⟩ := tri8 h0
  have HS := rzsign_any _ M1 w0 (hD1.below hb0).zn
  have hs1 : (M1.sign == 0) = false := by
    rw [beq_eq_false_iff_ne]
    exact fun h => hM1 (Int.sign_eq_zero_iff_zero.1 h)
  have hs2 : (M2.sign == 0) = false := by
    rw [beq_eq_false_iff_ne]
    exact fun h => hM2 (Int.sign_eq_zero_iff_zero.1 h)
  have HQ2 := hide (fun (W : World) (h : Dn W b2 (.slice a2 n2 c2) M2) => rzsign_any _ M2 W h.zn)
  generalize M1.sign = s1 at *
  generalize M2.sign = s2 at *
  have HK0 := hide h0
  have HK1 := hide h1
  have HK2 := hide h2
  have HB := hide hb0
  have HD1 := hide (hD1.below hb0)
  have HD2 := hide (hD2.below hb0)
  have HM := hide (And.intro hM1 hM2)
  have hEE : E1 < E2 := by omega
  have hEd := decide_eq_true (show E1 < E2 by omega)
  have wg : IntKind.i64.wrap (E2 - E1) = E2 - E1 := by rw [IntKind.wrap_i64]; omega
  clear h0 h1 h2 hb0 hD1 hD2 hM1 hM2
  have hbs : blen (M1 + M2 * 2 ^ g).natAbs ≤ 1125899906840000 ∨ 67108864 + blen M1.natAbs + 2 < g := by
    by_cases hq : 67108864 + blen M1.natAbs + 2 < g
    · exact .inr hq
    · have h9 := plus_blen (M1 := M1) (M2 := M2) (g := g) (n := 30000000000000) (by omega) (by omega)
      exact .inl (by omega)
  go_enter Tryd.func38, Tryd.ntmps38
  go_wp2_with fail
  refine HS.mono ?_
  rintro e t0 ⟨rfl, g0⟩
  have HS2 := HQ2.out t0 (HD2.out.below g0)
  obtain ⟨y0, y1, y2⟩ := tri8 (block_upW g0 HK1.out)
  have HG0 := hide g0
  clear x0 x1 x2 HS g0 HQ2
  go_wp2_with fail
  refine HS2.mono ?_
  rintro e t1 ⟨rfl, g1'⟩
  have g1 := bl_trans8 HG0.out g1'
  clear y0 y1 y2 HS2 g1'
  have q0 := block_upW g1 HK0.out
  have q1 := block_upW g1 HK1.out
  have q2 := block_upW g1 HK2.out
  have fq0 := tri8f q0
  have fq1 := tri8f q1
  obtain ⟨x0, x1, x2⟩ := tri8 q0
  obtain ⟨x3, x4, x5⟩ := tri8 q1
  have q1s := tri8_else (u0 := .bool b2) (u1 := .slice a2 n2 c2) (u2 := .int .i64 E2) q1 (show w.heap.size + 1 ≠ w.heap.size by omega)
  have fq2 := tri8f q1s
  obtain ⟨x6, x7, x8⟩ := tri8 q1s
  obtain ⟨T, hT⟩ : ∃ T, ((((((t1.setCell ⟨w.heap.size, 0, none⟩ (.bool b2)).setCell ⟨w.heap.size, 1, none⟩ (.slice a2 n2 c2)).setCell ⟨w.heap.size, 2, none⟩ (.int .i64 E2)).setCell ⟨w.heap.size + 1, 0, none⟩ (.bool b1)).setCell ⟨w.heap.size + 1, 1, none⟩ (.slice a1 n1 c1)).setCell ⟨w.heap.size + 1, 2, none⟩ (.int .i64 E1)) = T := ⟨_, rfl⟩
  have k0 : T.heap[w.heap.size]? = some (.cells #[.bool b2, .slice a2 n2 c2, .int .i64 E2] 36) := by rw [← hT]; exact tri8_else (tri8_all q0 _ _ _) (by omega)
  have k1 : T.heap[w.heap.size + 1]? = some (.cells #[.bool b1, .slice a1 n1 c1, .int .i64 E1] 36) := by rw [← hT]; exact tri8_all q1s _ _ _
  have k2 : T.heap[w.heap.size + 1 + 1]? = some (.cells #[.bool false, .slice none 0 0, .int .i64 0] 36) := by rw [← hT]; exact tri8_else (tri8_else q2 (by omega)) (by omega)
  have dT1 : Dn T b1 (.slice a1 n1 c1) M1 := by rw [← hT]; exact ((HD1.out.below g1).tri8 q0 b2 a2 n2 c2 (.int .i64 E2)).tri8 q1s b1 a1 n1 c1 (.int .i64 E1)
  have dT2 : Dn T b2 (.slice a2 n2 c2) M2 := by rw [← hT]; exact ((HD2.out.below g1).tri8 q0 b2 a2 n2 c2 (.int .i64 E2)).tri8 q1s b1 a1 n1 c1 (.int .i64 E1)
  have GT : Below w.heap.size w T := by rw [← hT]; exact below_tri8 (below_tri8 (bl_trans8 HB.out g1) (Nat.le_refl _) _ _ _) (by omega) _ _ _
  clear q0 q1 q2 q1s
  have HTK0 := hide k0
  have HTK1 := hide k1
  have HTK2 := hide k2
  have HTD1 := hide dT1
  have HTD2 := hide dT2
  have HGT := hide GT
  obtain ⟨y0, y1, y2⟩ := tri8 k1
  obtain ⟨z0, z1, z2⟩ := tri8 k0
  have CL := len_any (.slice a1 n1 c1) M1.natAbs T dT1.2
  clear k0 k1 k2 dT1 dT2 GT g1
  generalize hgi : (g : Int) = gi at *
  have HGI := hide hgi
  have hgi2 : E2 - E1 = gi := hg
  have HLB : Hid (blen M1.natAbs ≤ 4000000000000) := hide f1
  obtain ⟨lb, hlb⟩ : ∃ lb, blen M1.natAbs = lb := ⟨_, rfl⟩
  rw [hlb] at CL hbs HLB
  have hlb9 : lb ≤ 4000000000000 := HLB.out
  have wl : IntKind.i64.wrap (67108864 + (lb : Int)) = 67108864 + (lb : Int) := by rw [IntKind.wrap_i64]; omega
  have wl2 : IntKind.i64.wrap (67108864 + (lb : Int) + 2) = 67108864 + (lb : Int) + 2 := by rw [IntKind.wrap_i64]; omega
  have HLL := hide hlb
  clear hlb hg
  by_cases hfar : 67108864 + lb + 2 < g
  · have hi : 67108864 + (lb : Int) + 2 < gi := by rw [← HGI.out]; omega
    have HBIG : Hid (67108864 + blen M1.natAbs < blen (omz (M1 + M2 * 2 ^ g)).natAbs) := hide (by
      have h9 := plus_long (M1 := M1) (M2 := M2) (g := g) (by have := HM.out; omega) (by rw [HLL.out]; omega) hodd
      rw [HLL.out]
      omega)
    generalize omz (M1 + M2 * 2 ^ g) = RM at *
    generalize oe (M1 + M2 * 2 ^ g) E1 = RE at *
    have hf9 := tri8f HTK2.out
    obtain ⟨m0, m1, m2⟩ := tri8 HTK2.out
    clear hbs hodd
    go_wp2_with fail
    refine CL.mono ?_
    rintro e wn ⟨rfl, hw⟩; rw [hw]; clear hw wn CL
    go_wp2
    have T3 := tri8_all HTK2.out (.bool false) (.slice none 0 0) (.int .i64 0)
    have T4 := below_tri8 HGT.out (show w.heap.size ≤ w.heap.size + 1 + 1 by omega) (.bool false) (.slice none 0 0) (.int .i64 0)
    obtain ⟨p0, p1, p2⟩ := tri8 T3
    have HE := hide T4
    clear T3 T4
    generalize ((T.setCell ⟨w.heap.size + 1 + 1, 0, none⟩ (.bool false)).setCell ⟨w.heap.size + 1 + 1, 1, none⟩ (.slice none 0 0)).setCell ⟨w.heap.size + 1 + 1, 2, none⟩ (.int .i64 0) = w5 at *
    refine bodyPost_ret (v := .tuple #[.agg #[.bool false, .slice none 0 0, .int .i64 0], .bool false]) (by simp [results, Tryd.results38, go_sem, p0, p1, p2]) rfl ?_
    exact ⟨⟨_, _, _, _, _, _, rfl, .inr ⟨rfl, HBIG.out, ⟨rfl, Num.nil8 _⟩⟩⟩, HE.out⟩
  · have hi : decide (67108864 + (lb : Int) + 2 < gi) = false := decide_eq_false (by rw [← HGI.out]; omega)
    have hi2 : gi ≤ 67108864 + (lb : Int) + 2 := by rw [← HGI.out]; omega
    have hbm : blen (M2 * 2 ^ g + M1).natAbs ≤ 1125899906840000 := by
      rw [Int.add_comm]
      rcases hbs with h | h
      · exact h
      · exact absurd h hfar
    have hbh : blen (M2 * 2 ^ g).natAbs ≤ 1125899906840000 := by
      have h9 := plus_blen (M1 := 0) (M2 := M2) (g := g) (n := 30000000000000) (by decide) (by omega)
      rw [Int.zero_add] at h9
      omega
    have g0 : Below T.drew.heap.size T.drew T.drew := Below.refl _ _
    have HSH := rzshift_any b2 a2 n2 c2 M2 g T.drew (HTD2.out.below (Below.refl _ _).drew).zn (by omega)
    rw [HGI.out] at HSH
    have HAD := hide (fun (W : World) (v : Value) (h : Zn W v (M2 * 2 ^ g)) (hg : Below T.drew.heap.size T.drew W) => rzadd_any v (.agg #[.bool b1, .slice a1 n1 c1]) (M2 * 2 ^ g) M1 W h ((HTD1.out.below (Below.refl _ _).drew).below hg).zn hbh (Nat.le_trans f1 (by omega)))
    have HOF := hide (fun (W : World) (b3 : Bool) (a3 : Option Addr) (n3 c3 : Nat) (h : Zn W (.agg #[.bool b3, .slice a3 n3 c3]) (M2 * 2 ^ g + M1)) => rdOf_any b3 a3 n3 c3 (M2 * 2 ^ g + M1) E1 W h hbm (by omega) (by omega))
    rw [Int.add_comm (M2 * 2 ^ g) M1] at HAD HOF
    have KS := hide (fun (W : World) (hg : Below T.drew.heap.size T.drew W) => show W.cell? ⟨w.heap.size, 0, none⟩ = some (.bool b2) ∧ W.cell? ⟨w.heap.size, 1, none⟩ = some (.slice a2 n2 c2) ∧ W.cell? ⟨w.heap.size, 2, none⟩ = some (.int .i64 E2) ∧ W.cell? ⟨w.heap.size + 1, 0, none⟩ = some (.bool b1) ∧ W.cell? ⟨w.heap.size + 1, 1, none⟩ = some (.slice a1 n1 c1) ∧ W.cell? ⟨w.heap.size + 1, 2, none⟩ = some (.int .i64 E1) from by
      obtain ⟨u0, u1, u2⟩ := tri8 (block_upW hg (show T.drew.heap[w.heap.size]? = some (.cells #[.bool b2, .slice a2 n2 c2, .int .i64 E2] 36) from HTK0.out))
      obtain ⟨u3, u4, u5⟩ := tri8 (block_upW hg (show T.drew.heap[w.heap.size + 1]? = some (.cells #[.bool b1, .slice a1 n1 c1, .int .i64 E1] 36) from HTK1.out))
      exact ⟨u0, u1, u2, u3, u4, u5⟩)
    have so : ∀ (W : World) (k : Nat) (u : Value) (k' : Nat), (W.setCell ⟨w.heap.size + 1 + 1, k, none⟩ u).cell? ⟨w.heap.size, k', none⟩ = W.cell? ⟨w.heap.size, k', none⟩ := fun W k u k' => cell_other8 (by omega)
    have so2 : ∀ (W : World) (k : Nat) (u : Value) (k' : Nat), (W.setCell ⟨w.heap.size + 1 + 1, k, none⟩ u).cell? ⟨w.heap.size + 1, k', none⟩ = W.cell? ⟨w.heap.size + 1, k', none⟩ := fun W k u k' => cell_other8 (by omega)
    have HD := hide (show Below w.heap.size w T.drew from HGT.out.drew)
    clear hbm hbh hbs hodd
    generalize omz (M1 + M2 * 2 ^ g) = RM at *
    generalize oe (M1 + M2 * 2 ^ g) E1 = RE at *
    generalize M1 + M2 * 2 ^ g = RZ at *
    generalize M2 * 2 ^ g = RH at *
    go_wp2_with fail
    refine CL.mono ?_
    rintro e wn ⟨rfl, hw⟩; rw [hw]; clear hw wn CL
    go_wp2
    go_region_held3 (fun w' => w'.cell? ⟨w.heap.size, 0, none⟩ = some (.bool b2) ∧ w'.cell? ⟨w.heap.size, 1, none⟩ = some (.slice a2 n2 c2) ∧ w'.cell? ⟨w.heap.size, 2, none⟩ = some (.int .i64 E2) ∧ w'.cell? ⟨w.heap.size + 1, 0, none⟩ = some (.bool b1) ∧ w'.cell? ⟨w.heap.size + 1, 1, none⟩ = some (.slice a1 n1 c1) ∧ w'.cell? ⟨w.heap.size + 1, 2, none⟩ = some (.int .i64 E1)) (first | with_reducible exact KS.out _ g3 | with_reducible exact KS.out _ g2 | with_reducible exact KS.out _ g1 | with_reducible exact KS.out _ g0 | (refine ⟨?_, ?_, ?_, ?_, ?_, ?_⟩ <;> (first | rw [so, so, so] | rw [so2, so2, so2]) <;> (first | exact (KS.out _ g3).1 | exact (KS.out _ g3).2.1 | exact (KS.out _ g3).2.2.1 | exact (KS.out _ g3).2.2.2.1 | exact (KS.out _ g3).2.2.2.2.1 | exact (KS.out _ g3).2.2.2.2.2))) (first
      | (go_at_call 25; refine HSH.mono ?_; rintro e' t2 ⟨⟨b3, a3, n3, c3, rfl, Z2⟩, g1⟩)
      | (go_at_call 76; refine (HAD.out t2 _ Z2 g1).mono ?_; rintro e' t3 ⟨⟨b5, a5, n5, c5, rfl, Z3⟩, hb2⟩; have g2 := bl_trans8 g1 hb2)
      | (go_at_call 48; refine (HOF.out t3 b5 a5 n5 c5 Z3).mono ?_; rintro e' t4 ⟨⟨b4, a4, n4, c4, rfl, N4⟩, hb3⟩; have g3 := bl_trans8 g2 hb3; have hz := block_upW g3 (show T.drew.heap[w.heap.size + 1 + 1]? = some (.cells #[.bool false, .slice none 0 0, .int .i64 0] 36) from HTK2.out); have hf := tri8f hz; obtain ⟨m0, m1, m2⟩ := tri8 hz))
    have T3 := tri8_all hz (.bool b4) (.slice a4 n4 c4) (.int .i64 RE)
    have T4 := below_tri8 (bl_trans8 HD.out g3) (show w.heap.size ≤ w.heap.size + 1 + 1 by omega) (.bool b4) (.slice a4 n4 c4) (.int .i64 RE)
    have T5 := N4.tri8 hz b4 a4 n4 c4 (.int .i64 RE)
    obtain ⟨p0, p1, p2⟩ := tri8 T3
    have HE := hide (And.intro T5 T4)
    clear T3 T4 T5 so so2 m0 m1 m2 hf KS g0 g1 g2 g3 hb2 hb3 HSH hz N4 Z2 Z3 HOF HAD
    generalize ((t4.setCell ⟨w.heap.size + 1 + 1, 0, none⟩ (.bool b4)).setCell ⟨w.heap.size + 1 + 1, 1, none⟩ (.slice a4 n4 c4)).setCell ⟨w.heap.size + 1 + 1, 2, none⟩ (.int .i64 RE) = w5 at *
    go_wp2
    refine bodyPost_ret (v := .tuple #[.agg #[.bool b4, .slice a4 n4 c4, .int .i64 RE], .bool true]) (by simp [results, Tryd.results38, go_sem, p0, p1, p2]) rfl ?_
    exact ⟨⟨_, _, _, _, _, _, rfl, .inl ⟨rfl, HE.out.1, rfl⟩⟩, HE.out.2⟩

end Go.Proofs.YtemajaclpkgpbaaDoor
