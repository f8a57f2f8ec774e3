/- The document's Add of dyadics, where one of them is 0; where the first has the higher exponent. -/
import Derived.Test.YtolebfnkmjmfnaaGreatDoorB12
import Derived.Test.YtolebfnkmjmfnaaGreatDoorB09
import Derived.Test.YtolebfnkmjmfnaaGreatDoorB04
import Derived.Test.YtolebfnkmjmfnaaGreatDoorB03
import Derived.Test.YtolebfnkmjmfnaaGreatDoorB08
namespace Go.Proofs.YtolebfnkmjmfnaaGreatDoor
open Go.RowKit
open Lm
attribute [local go_sem ↓] Go.wp_at_zero Go.wp_at_succ

/-- What the document's Add answers: M times 2^E, or that it is too big. -/
def AddR (w : World) (M E : Int) (e : Ending) (w' : World) : Prop :=
  (∃ b a n k E' ok, e = .returned (.tuple #[.agg #[.bool b, .slice a n k, .int .i64 E'], .bool ok]) ∧ ((ok = true ∧ Dn w' b (.slice a n k) M ∧ E' = E) ∨ (ok = false ∧ 67108864 < blen M.natAbs ∧ Dn w' b (.slice a n k) 0))) ∧ Below w.heap.size w w'

/-- The same, with what is known where it is false. -/
def AddK (w : World) (K : Nat) (M E : Int) (e : Ending) (w' : World) : Prop :=
  (∃ b a n k E' ok, e = .returned (.tuple #[.agg #[.bool b, .slice a n k, .int .i64 E'], .bool ok]) ∧ ((ok = true ∧ Dn w' b (.slice a n k) M ∧ E' = E) ∨ (ok = false ∧ 67108864 + K < blen M.natAbs ∧ Dn w' b (.slice a n k) 0))) ∧ Below w.heap.size w w'

theorem AddK.r {w w' : World} {K : Nat} {M E : Int} {e : Ending} (h : AddK w K M E e w') : AddR w M E e w' := by
  obtain ⟨⟨b, a, n, k, E', ok, h1, h2 | h2⟩, h3⟩ := h
  · exact ⟨⟨b, a, n, k, E', ok, h1, .inl h2⟩, h3⟩
  · exact ⟨⟨b, a, n, k, E', ok, h1, .inr ⟨h2.1, by have := h2.2.1; omega, h2.2.2⟩⟩, h3⟩

set_option maxRecDepth 20000 in
set_option maxHeartbeats 1000000 in
theorem rdAdd_zero1 (b1 : Bool) (a1 : Option Addr) (n1 c1 : Nat) (E1 : Int) (b2 : Bool) (a2 : Option Addr) (n2 c2 : Nat) (M2 E2 : Int) (w : World) (hD1 : Dn w b1 (.slice a1 n1 c1) 0) (hD2 : Dn w b2 (.slice a2 n2 c2) M2) (K : Nat) :
    Calls Tryz.prog 39 #[.agg #[.bool b1, .slice a1 n1 c1, .int .i64 E1], .agg #[.bool b2, .slice a2 n2 c2, .int .i64 E2]] w (AddK w K M2 E2) := by
  obtain ⟨w0, hw0, hb0, h0, h1, h2⟩ := enter3 w (.cells #[.bool b1, .slice a1 n1 c1, .int .i64 E1] 41) (.cells #[.bool b2, .slice a2 n2 c2, .int .i64 E2] 41) (.cells #[.bool false, .slice none 0 0, .int .i64 0] 41)
  obtain ⟨x0, x1, x2⟩ := tri8 h0
  have HS := rzsign_any _ 0 w0 (hD1.below hb0).zn
  rw [show Int.sign 0 = 0 from rfl] at HS
  have HK1 := hide h1
  have HK2 := hide h2
  have HB := hide hb0
  have HD2 := hide (hD2.below hb0)
  clear h0 h1 h2 hb0 hD1 hD2
  go_enter Tryz.func39, Tryz.ntmps39
  go_wp2_with fail
  refine HS.mono ?_
  rintro e t1 ⟨rfl, g1⟩
  have HC1 := hide (block_upW g1 HK2.out)
  have HG := hide (bl_trans8 HB.out g1)
  have hf1 := tri8f HC1.out
  obtain ⟨m0, m1, m2⟩ := tri8 HC1.out
  obtain ⟨y0, y1, y2⟩ := tri8 (block_upW g1 HK1.out)
  have HDD := hide (HD2.out.below g1)
  clear g1 HS
  go_wp2
  have T3 := tri8_all HC1.out (.bool b2) (.slice a2 n2 c2) (.int .i64 E2)
  have T4 := below_tri8 HG.out (show w.heap.size ≤ w.heap.size + 1 + 1 by omega) (.bool b2) (.slice a2 n2 c2) (.int .i64 E2)
  have T5 := HDD.out.tri8 HC1.out b2 a2 n2 c2 (.int .i64 E2)
  obtain ⟨p0, p1, p2⟩ := tri8 T3
  have HE := hide (And.intro T5 T4)
  clear T3 T4 T5
  generalize ((t1.setCell ⟨w.heap.size + 1 + 1, 0, none⟩ (.bool b2)).setCell ⟨w.heap.size + 1 + 1, 1, none⟩ (.slice a2 n2 c2)).setCell ⟨w.heap.size + 1 + 1, 2, none⟩ (.int .i64 E2) = w5 at *
  refine bodyPost_ret (v := .tuple #[.agg #[.bool b2, .slice a2 n2 c2, .int .i64 E2], .bool true]) (by simp [results, Tryz.results39, go_sem, p0, p1, p2]) rfl ?_
  exact ⟨⟨_, _, _, _, _, _, rfl, .inl ⟨rfl, HE.out.1, rfl⟩⟩, HE.out.2⟩

set_option maxRecDepth 20000 in
set_option maxHeartbeats 1000000 in
theorem rdAdd_zero2 (b1 : Bool) (a1 : Option Addr) (n1 c1 : Nat) (M1 E1 : Int) (b2 : Bool) (a2 : Option Addr) (n2 c2 : Nat) (E2 : Int) (w : World) (hD1 : Dn w b1 (.slice a1 n1 c1) M1) (hD2 : Dn w b2 (.slice a2 n2 c2) 0) (hM : M1 ≠ 0) (K : Nat) :
    Calls Tryz.prog 39 #[.agg #[.bool b1, .slice a1 n1 c1, .int .i64 E1], .agg #[.bool b2, .slice a2 n2 c2, .int .i64 E2]] w (AddK w K M1 E1) := by
  obtain ⟨w0, hw0, hb0, h0, h1, h2⟩ := enter3 w (.cells #[.bool b1, .slice a1 n1 c1, .int .i64 E1] 41) (.cells #[.bool b2, .slice a2 n2 c2, .int .i64 E2] 41) (.cells #[.bool false, .slice none 0 0, .int .i64 0] 41)
  obtain ⟨x0, x1, x2⟩ := tri8 h0
  have HS := rzsign_any _ M1 w0 (hD1.below hb0).zn
  have hs0 : (M1.sign == 0) = false := by
    rw [beq_eq_false_iff_ne]
    exact fun h => hM (Int.sign_eq_zero_iff_zero.1 h)
  generalize M1.sign = s1 at *
  have HK0 := hide h0
  have HK1 := hide h1
  have HK2 := hide h2
  have HB := hide hb0
  have HD1 := hide (hD1.below hb0)
  have HD2 := hide (hD2.below hb0)
  clear h0 h1 h2 hb0 hD1 hD2 hM
  go_enter Tryz.func39, Tryz.ntmps39
  go_wp2_with fail
  refine HS.mono ?_
  rintro e t0 ⟨rfl, g0⟩
  have HS2 := rzsign_any _ 0 t0 (HD2.out.below g0).zn
  rw [show Int.sign 0 = 0 from rfl] at HS2
  obtain ⟨y0, y1, y2⟩ := tri8 (block_upW g0 HK1.out)
  have HG0 := hide g0
  clear x0 x1 x2 HS g0
  go_wp2_with fail
  refine HS2.mono ?_
  rintro e t1 ⟨rfl, g1'⟩
  have g1 := bl_trans8 HG0.out g1'
  have HC1 := hide (block_upW g1 HK2.out)
  have HG := hide (bl_trans8 HB.out g1)
  have hf1 := tri8f HC1.out
  obtain ⟨m0, m1, m2⟩ := tri8 HC1.out
  obtain ⟨y0, y1, y2⟩ := tri8 (block_upW g1 HK0.out)
  have HDD := hide (HD1.out.below g1)
  clear g1 g1' HS2
  go_wp2
  have T3 := tri8_all HC1.out (.bool b1) (.slice a1 n1 c1) (.int .i64 E1)
  have T4 := below_tri8 HG.out (show w.heap.size ≤ w.heap.size + 1 + 1 by omega) (.bool b1) (.slice a1 n1 c1) (.int .i64 E1)
  have T5 := HDD.out.tri8 HC1.out b1 a1 n1 c1 (.int .i64 E1)
  obtain ⟨p0, p1, p2⟩ := tri8 T3
  have HE := hide (And.intro T5 T4)
  clear T3 T4 T5
  generalize ((t1.setCell ⟨w.heap.size + 1 + 1, 0, none⟩ (.bool b1)).setCell ⟨w.heap.size + 1 + 1, 1, none⟩ (.slice a1 n1 c1)).setCell ⟨w.heap.size + 1 + 1, 2, none⟩ (.int .i64 E1) = w5 at *
  refine bodyPost_ret (v := .tuple #[.agg #[.bool b1, .slice a1 n1 c1, .int .i64 E1], .bool true]) (by simp [results, Tryz.results39, go_sem, p0, p1, p2]) rfl ?_
  exact ⟨⟨_, _, _, _, _, _, rfl, .inl ⟨rfl, HE.out.1, rfl⟩⟩, HE.out.2⟩

end Go.Proofs.YtolebfnkmjmfnaaGreatDoor

namespace Go.Proofs.YtolebfnkmjmfnaaGreatDoor
open Go.RowKit
open Lm
attribute [local go_sem ↓] Go.wp_at_zero Go.wp_at_succ

theorem tri8_else {w : World} {g h : Nat} {u0 u1 u2 : Value} {x : Obj} (e : w.heap[h]? = some x) (hne : h ≠ g) : (((w.setCell ⟨g, 0, none⟩ u0).setCell ⟨g, 1, none⟩ u1).setCell ⟨g, 2, none⟩ u2).heap[h]? = some x := by
  rw [Below.heap_setCell _ _ _ _ hne, Below.heap_setCell _ _ _ _ hne, Below.heap_setCell _ _ _ _ hne]; exact e

set_option maxRecDepth 20000 in
set_option maxHeartbeats 2000000 in
theorem rdAdd_ge (b1 : Bool) (a1 : Option Addr) (n1 c1 : Nat) (M1 E1 : Int) (b2 : Bool) (a2 : Option Addr) (n2 c2 : Nat) (M2 E2 : Int) (g : Nat) (w : World) (hD1 : Dn w b1 (.slice a1 n1 c1) M1) (hD2 : Dn w b2 (.slice a2 n2 c2) M2) (hM1 : M1 ≠ 0) (hM2 : M2 ≠ 0) (hodd : M2.natAbs % 2 = 1) (hg : E1 - E2 = (g : Int)) (f1 : blen M1.natAbs ≤ 4000000000000) (f2 : blen M2.natAbs ≤ 4000000000000) (he1 : -1152921504606846976 ≤ E1) (he2 : E1 ≤ 1152921504606846976) (he3 : -1152921504606846976 ≤ E2) (he4 : E2 ≤ 1152921504606846976) :
    Calls Tryz.prog 39 #[.agg #[.bool b1, .slice a1 n1 c1, .int .i64 E1], .agg #[.bool b2, .slice a2 n2 c2, .int .i64 E2]] w (AddK w (blen M2.natAbs) (omz (M2 + M1 * 2 ^ g)) (oe (M2 + M1 * 2 ^ g) E2)) := by
  obtain ⟨w0, hw0, hb0, h0, h1, h2⟩ := enter3 w (.cells #[.bool b1, .slice a1 n1 c1, .int .i64 E1] 41) (.cells #[.bool b2, .slice a2 n2 c2, .int .i64 E2] 41) (.cells #[.bool false, .slice none 0 0, .int .i64 0] 41)
  obtain ⟨x0, x1, x2⟩ := tri8 h0
  have HS := rzsign_any _ M1 w0 (hD1.below hb0).zn
  have hs1 : (M1.sign == 0) = false := by
    rw [beq_eq_false_iff_ne]
    exact fun h => hM1 (Int.sign_eq_zero_iff_zero.1 h)
  have hs2 : (M2.sign == 0) = false := by
    rw [beq_eq_false_iff_ne]
    exact fun h => hM2 (Int.sign_eq_zero_iff_zero.1 h)
  have HQ2 := hide (fun (W : World) (h : Dn W b2 (.slice a2 n2 c2) M2) => rzsign_any _ M2 W h.zn)
  generalize M1.sign = s1 at *
  generalize M2.sign = s2 at *
  have HK0 := hide h0
  have HK1 := hide h1
  have HK2 := hide h2
  have HB := hide hb0
  have HD1 := hide (hD1.below hb0)
  have HD2 := hide (hD2.below hb0)
  have HM := hide (And.intro hM1 hM2)
  have hEE : E2 ≤ E1 := by omega
  have hEd := decide_eq_false (show ¬ E1 < E2 by omega)
  have wg : IntKind.i64.wrap (E1 - E2) = E1 - E2 := by rw [IntKind.wrap_i64]; omega
  clear h0 h1 h2 hb0 hD1 hD2 hM1 hM2
  have hbs : blen (M2 + M1 * 2 ^ g).natAbs ≤ 1125899906840000 ∨ 67108864 + blen M2.natAbs + 2 < g := by
    by_cases hq : 67108864 + blen M2.natAbs + 2 < g
    · exact .inr hq
    · have h9 := plus_blen (M1 := M2) (M2 := M1) (g := g) (n := 30000000000000) (by omega) (by omega)
      exact .inl (by omega)
  go_enter Tryz.func39, Tryz.ntmps39
  go_wp2_with fail
  refine HS.mono ?_
  rintro e t0 ⟨rfl, g0⟩
  have HS2 := HQ2.out t0 (HD2.out.below g0)
  obtain ⟨y0, y1, y2⟩ := tri8 (block_upW g0 HK1.out)
  have HG0 := hide g0
  clear x0 x1 x2 HS g0 HQ2
  go_wp2_with fail
  refine HS2.mono ?_
  rintro e t1 ⟨rfl, g1'⟩
  have g1 := bl_trans8 HG0.out g1'
  clear y0 y1 y2 HS2 g1'
  obtain ⟨T, hT⟩ : ∃ T, t1 = T := ⟨_, rfl⟩
  subst hT
  have k0 := block_upW g1 HK0.out
  have k1 := block_upW g1 HK1.out
  have k2 := block_upW g1 HK2.out
  have dT1 := HD1.out.below g1
  have dT2 := HD2.out.below g1
  have GT := bl_trans8 HB.out g1
  have HTK0 := hide k0
  have HTK1 := hide k1
  have HTK2 := hide k2
  have HTD1 := hide dT1
  have HTD2 := hide dT2
  have HGT := hide GT
  obtain ⟨x0, x1, x2⟩ := tri8 k0
  obtain ⟨y0, y1, y2⟩ := tri8 k1
  have CL := len_any (.slice a2 n2 c2) M2.natAbs t1 dT2.2
  clear k0 k1 k2 dT1 dT2 GT g1
  generalize hgi : (g : Int) = gi at *
  have HGI := hide hgi
  have hgi2 : E1 - E2 = gi := hg
  have HLB : Hid (blen M2.natAbs ≤ 4000000000000) := hide f2
  obtain ⟨lb, hlb⟩ : ∃ lb, blen M2.natAbs = lb := ⟨_, rfl⟩
  rw [hlb] at CL hbs HLB
  have hlb9 : lb ≤ 4000000000000 := HLB.out
  have wl : IntKind.i64.wrap (67108864 + (lb : Int)) = 67108864 + (lb : Int) := by rw [IntKind.wrap_i64]; omega
  have wl2 : IntKind.i64.wrap (67108864 + (lb : Int) + 2) = 67108864 + (lb : Int) + 2 := by rw [IntKind.wrap_i64]; omega
  have HLL := hide hlb
  clear hlb hg
  by_cases hfar : 67108864 + lb + 2 < g
  · have hi : 67108864 + (lb : Int) + 2 < gi := by rw [← HGI.out]; omega
    have HBIG : Hid (67108864 + blen M2.natAbs < blen (omz (M2 + M1 * 2 ^ g)).natAbs) := hide (by
      have h9 := plus_long (M1 := M2) (M2 := M1) (g := g) (by have := HM.out; omega) (by rw [HLL.out]; omega) hodd
      rw [HLL.out]
      omega)
    generalize omz (M2 + M1 * 2 ^ g) = RM at *
    generalize oe (M2 + M1 * 2 ^ g) E2 = RE at *
    have hf9 := tri8f HTK2.out
    obtain ⟨m0, m1, m2⟩ := tri8 HTK2.out
    clear hbs hodd
    go_wp2_with fail
    refine CL.mono ?_
    rintro e wn ⟨rfl, hw⟩; rw [hw]; clear hw wn CL
    go_wp2
    have T3 := tri8_all HTK2.out (.bool false) (.slice none 0 0) (.int .i64 0)
    have T4 := below_tri8 HGT.out (show w.heap.size ≤ w.heap.size + 1 + 1 by omega) (.bool false) (.slice none 0 0) (.int .i64 0)
    obtain ⟨p0, p1, p2⟩ := tri8 T3
    have HE := hide T4
    clear T3 T4
    generalize ((t1.setCell ⟨w.heap.size + 1 + 1, 0, none⟩ (.bool false)).setCell ⟨w.heap.size + 1 + 1, 1, none⟩ (.slice none 0 0)).setCell ⟨w.heap.size + 1 + 1, 2, none⟩ (.int .i64 0) = w5 at *
    refine bodyPost_ret (v := .tuple #[.agg #[.bool false, .slice none 0 0, .int .i64 0], .bool false]) (by simp [results, Tryz.results39, go_sem, p0, p1, p2]) rfl ?_
    exact ⟨⟨_, _, _, _, _, _, rfl, .inr ⟨rfl, HBIG.out, ⟨rfl, Num.nil8 _⟩⟩⟩, HE.out⟩
  · have hi : decide (67108864 + (lb : Int) + 2 < gi) = false := decide_eq_false (by rw [← HGI.out]; omega)
    have hi2 : gi ≤ 67108864 + (lb : Int) + 2 := by rw [← HGI.out]; omega
    have hbm : blen (M1 * 2 ^ g + M2).natAbs ≤ 1125899906840000 := by
      rw [Int.add_comm]
      rcases hbs with h | h
      · exact h
      · exact absurd h hfar
    have hbh : blen (M1 * 2 ^ g).natAbs ≤ 1125899906840000 := by
      have h9 := plus_blen (M1 := 0) (M2 := M1) (g := g) (n := 30000000000000) (by decide) (by omega)
      rw [Int.zero_add] at h9
      omega
    have g0 : Below t1.drew.heap.size t1.drew t1.drew := Below.refl _ _
    have HSH := rzshift_any b1 a1 n1 c1 M1 g t1.drew (HTD1.out.below (Below.refl _ _).drew).zn (by omega)
    rw [HGI.out] at HSH
    have HAD := hide (fun (W : World) (v : Value) (h : Zn W v (M1 * 2 ^ g)) (hg : Below t1.drew.heap.size t1.drew W) => rzadd_any v (.agg #[.bool b2, .slice a2 n2 c2]) (M1 * 2 ^ g) M2 W h ((HTD2.out.below (Below.refl _ _).drew).below hg).zn hbh (Nat.le_trans f2 (by omega)))
    have HOF := hide (fun (W : World) (b3 : Bool) (a3 : Option Addr) (n3 c3 : Nat) (h : Zn W (.agg #[.bool b3, .slice a3 n3 c3]) (M1 * 2 ^ g + M2)) => rdOf_any b3 a3 n3 c3 (M1 * 2 ^ g + M2) E2 W h hbm (by omega) (by omega))
    rw [Int.add_comm (M1 * 2 ^ g) M2] at HAD HOF
    have KS := hide (fun (W : World) (hg : Below t1.drew.heap.size t1.drew W) => show W.cell? ⟨w.heap.size, 0, none⟩ = some (.bool b1) ∧ W.cell? ⟨w.heap.size, 1, none⟩ = some (.slice a1 n1 c1) ∧ W.cell? ⟨w.heap.size, 2, none⟩ = some (.int .i64 E1) ∧ W.cell? ⟨w.heap.size + 1, 0, none⟩ = some (.bool b2) ∧ W.cell? ⟨w.heap.size + 1, 1, none⟩ = some (.slice a2 n2 c2) ∧ W.cell? ⟨w.heap.size + 1, 2, none⟩ = some (.int .i64 E2) from by
      obtain ⟨u0, u1, u2⟩ := tri8 (block_upW hg (show t1.drew.heap[w.heap.size]? = some (.cells #[.bool b1, .slice a1 n1 c1, .int .i64 E1] 41) from HTK0.out))
      obtain ⟨u3, u4, u5⟩ := tri8 (block_upW hg (show t1.drew.heap[w.heap.size + 1]? = some (.cells #[.bool b2, .slice a2 n2 c2, .int .i64 E2] 41) from HTK1.out))
      exact ⟨u0, u1, u2, u3, u4, u5⟩)
    have so : ∀ (W : World) (k : Nat) (u : Value) (k' : Nat), (W.setCell ⟨w.heap.size + 1 + 1, k, none⟩ u).cell? ⟨w.heap.size, k', none⟩ = W.cell? ⟨w.heap.size, k', none⟩ := fun W k u k' => cell_other8 (by omega)
    have so2 : ∀ (W : World) (k : Nat) (u : Value) (k' : Nat), (W.setCell ⟨w.heap.size + 1 + 1, k, none⟩ u).cell? ⟨w.heap.size + 1, k', none⟩ = W.cell? ⟨w.heap.size + 1, k', none⟩ := fun W k u k' => cell_other8 (by omega)
    have HD := hide (show Below w.heap.size w t1.drew from HGT.out.drew)
    clear hbm hbh hbs hodd
    generalize omz (M2 + M1 * 2 ^ g) = RM at *
    generalize oe (M2 + M1 * 2 ^ g) E2 = RE at *
    generalize M2 + M1 * 2 ^ g = RZ at *
    generalize M1 * 2 ^ g = RH at *
    go_wp2_with fail
    refine CL.mono ?_
    rintro e wn ⟨rfl, hw⟩; rw [hw]; clear hw wn CL
    go_wp2
    go_region_held3 (fun w' => w'.cell? ⟨w.heap.size, 0, none⟩ = some (.bool b1) ∧ w'.cell? ⟨w.heap.size, 1, none⟩ = some (.slice a1 n1 c1) ∧ w'.cell? ⟨w.heap.size, 2, none⟩ = some (.int .i64 E1) ∧ w'.cell? ⟨w.heap.size + 1, 0, none⟩ = some (.bool b2) ∧ w'.cell? ⟨w.heap.size + 1, 1, none⟩ = some (.slice a2 n2 c2) ∧ w'.cell? ⟨w.heap.size + 1, 2, none⟩ = some (.int .i64 E2)) (first | with_reducible exact KS.out _ g3 | with_reducible exact KS.out _ g2 | with_reducible exact KS.out _ g1 | with_reducible exact KS.out _ g0 | (refine ⟨?_, ?_, ?_, ?_, ?_, ?_⟩ <;> (first | rw [so, so, so] | rw [so2, so2, so2]) <;> (first | exact (KS.out _ g3).1 | exact (KS.out _ g3).2.1 | exact (KS.out _ g3).2.2.1 | exact (KS.out _ g3).2.2.2.1 | exact (KS.out _ g3).2.2.2.2.1 | exact (KS.out _ g3).2.2.2.2.2))) (first
      | (go_at_call 53; refine HSH.mono ?_; rintro e' t2 ⟨⟨b3, a3, n3, c3, rfl, Z2⟩, g1⟩)
      | (go_at_call 69; refine (HAD.out t2 _ Z2 g1).mono ?_; rintro e' t3 ⟨⟨b5, a5, n5, c5, rfl, Z3⟩, hb2⟩; have g2 := bl_trans8 g1 hb2)
      | (go_at_call 50; refine (HOF.out t3 b5 a5 n5 c5 Z3).mono ?_; rintro e' t4 ⟨⟨b4, a4, n4, c4, rfl, N4⟩, hb3⟩; have g3 := bl_trans8 g2 hb3; have hz := block_upW g3 (show t1.drew.heap[w.heap.size + 1 + 1]? = some (.cells #[.bool false, .slice none 0 0, .int .i64 0] 41) from HTK2.out); have hf := tri8f hz; obtain ⟨m0, m1, m2⟩ := tri8 hz))
    have T3 := tri8_all hz (.bool b4) (.slice a4 n4 c4) (.int .i64 RE)
    have T4 := below_tri8 (bl_trans8 HD.out g3) (show w.heap.size ≤ w.heap.size + 1 + 1 by omega) (.bool b4) (.slice a4 n4 c4) (.int .i64 RE)
    have T5 := N4.tri8 hz b4 a4 n4 c4 (.int .i64 RE)
    obtain ⟨p0, p1, p2⟩ := tri8 T3
    have HE := hide (And.intro T5 T4)
    clear T3 T4 T5 so so2 m0 m1 m2 hf KS g0 g1 g2 g3 hb2 hb3 HSH hz N4 Z2 Z3 HOF HAD
    generalize ((t4.setCell ⟨w.heap.size + 1 + 1, 0, none⟩ (.bool b4)).setCell ⟨w.heap.size + 1 + 1, 1, none⟩ (.slice a4 n4 c4)).setCell ⟨w.heap.size + 1 + 1, 2, none⟩ (.int .i64 RE) = w5 at *
    go_wp2
    refine bodyPost_ret (v := .tuple #[.agg #[.bool b4, .slice a4 n4 c4, .int .i64 RE], .bool true]) (by simp [results, Tryz.results39, go_sem, p0, p1, p2]) rfl ?_
    exact ⟨⟨_, _, _, _, _, _, rfl, .inl ⟨rfl, HE.out.1, rfl⟩⟩, HE.out.2⟩

end Go.Proofs.YtolebfnkmjmfnaaGreatDoor

namespace Go.Proofs.YtolebfnkmjmfnaaGreatDoor
open Go.RowKit
open Lm
attribute [local go_sem ↓] Go.wp_at_zero Go.wp_at_succ

set_option maxRecDepth 20000 in
set_option maxHeartbeats 2000000 in
theorem rdAdd_lt (b1 : Bool) (a1 : Option Addr) (n1 c1 : Nat) (M1 E1 : Int) (b2 : Bool) (a2 : Option Addr) (n2 c2 : Nat) (M2 E2 : Int) (g : Nat) (w : World) (hD1 : Dn w b1 (.slice a1 n1 c1) M1) (hD2 : Dn w b2 (.slice a2 n2 c2) M2) (hM1 : M1 ≠ 0) (hM2 : M2 ≠ 0) (hodd : M1.natAbs % 2 = 1) (hg : E2 - E1 = (g : Int)) (hgp : 0 < g) (f1 : blen M1.natAbs ≤ 4000000000000) (f2 : blen M2.natAbs ≤ 4000000000000) (he1 : -1152921504606846976 ≤ E1) (he2 : E1 ≤ 1152921504606846976) (he3 : -1152921504606846976 ≤ E2) (he4 : E2 ≤ 1152921504606846976) :
    Calls Tryz.prog 39 #[.agg #[.bool b1, .slice a1 n1 c1, .int .i64 E1], .agg #[.bool b2, .slice a2 n2 c2, .int .i64 E2]] w (AddK w (blen M1.natAbs) (omz (M1 + M2 * 2 ^ g)) (oe (M1 + M2 * 2 ^ g) E1)) := by
  obtain ⟨w0, hw0, hb0, h0, h1, h2⟩ := enter3 w (.cells #[.bool b1, .slice a1 n1 c1, .int .i64 E1] 41) (.cells #[.bool b2, .slice a2 n2 c2, .int .i64 E2] 41) (.cells #[.bool false, .slice none 0 0, .int .i64 0] 41)
  obtain ⟨x0, x1, x2⟩ := tri8 h0
  have HS := rzsign_any _ M1 w0 (hD1.below hb0).zn
  have hs1 : (M1.sign == 0) = false := by
    rw [beq_eq_false_iff_ne]
    exact fun h => hM1 (Int.sign_eq_zero_iff_zero.1 h)
  have hs2 : (M2.sign == 0) = false := by
    rw [beq_eq_false_iff_ne]
    exact fun h => hM2 (Int.sign_eq_zero_iff_zero.1 h)
  have HQ2 := hide (fun (W : World) (h : Dn W b2 (.slice a2 n2 c2) M2) => rzsign_any _ M2 W h.zn)
  generalize M1.sign = s1 at *
  generalize M2.sign = s2 at *
  have HK0 := hide h0
  have HK1 := hide h1
  have HK2 := hide h2
  have HB := hide hb0
  have HD1 := hide (hD1.below hb0)
  have HD2 := hide (hD2.below hb0)
  have HM := hide (And.intro hM1 hM2)
  have hEE : E1 < E2 := by omega
  have hEd := decide_eq_true (show E1 < E2 by omega)
  have wg : IntKind.i64.wrap (E2 - E1) = E2 - E1 := by rw [IntKind.wrap_i64]; omega
  clear h0 h1 h2 hb0 hD1 hD2 hM1 hM2
  have hbs : blen (M1 + M2 * 2 ^ g).natAbs ≤ 1125899906840000 ∨ 67108864 + blen M1.natAbs + 2 < g := by
    by_cases hq : 67108864 + blen M1.natAbs + 2 < g
    · exact .inr hq
    · have h9 := plus_blen (M1 := M1) (M2 := M2) (g := g) (n := 30000000000000) (by omega) (by omega)
      exact .inl (by omega)
  go_enter Tryz.func39, Tryz.ntmps39
  go_wp2_with fail
  refine HS.mono ?_
  rintro e t0 ⟨rfl, g0⟩
  have HS2 := HQ2.out t0 (HD2.out.below g0)
  obtain ⟨y0, y1, y2⟩ := tri8 (block_upW g0 HK1.out)
  have HG0 := hide g0
  clear x0 x1 x2 HS g0 HQ2
  go_wp2_with fail
  refine HS2.mono ?_
  rintro e t1 ⟨rfl, g1'⟩
  have g1 := bl_trans8 HG0.out g1'
  clear y0 y1 y2 HS2 g1'
  have q0 := block_upW g1 HK0.out
  have q1 := block_upW g1 HK1.out
  have q2 := block_upW g1 HK2.out
  have fq0 := tri8f q0
  have fq1 := tri8f q1
  obtain ⟨x0, x1, x2⟩ := tri8 q0
  obtain ⟨x3, x4, x5⟩ := tri8 q1
  have q1s := tri8_else (u0 := .bool b2) (u1 := .slice a2 n2 c2) (u2 := .int .i64 E2) q1 (show w.heap.size + 1 ≠ w.heap.size by omega)
  have fq2 := tri8f q1s
  obtain ⟨x6, x7, x8⟩ := tri8 q1s
  obtain ⟨T, hT⟩ : ∃ T, ((((((t1.setCell ⟨w.heap.size, 0, none⟩ (.bool b2)).setCell ⟨w.heap.size, 1, none⟩ (.slice a2 n2 c2)).setCell ⟨w.heap.size, 2, none⟩ (.int .i64 E2)).setCell ⟨w.heap.size + 1, 0, none⟩ (.bool b1)).setCell ⟨w.heap.size + 1, 1, none⟩ (.slice a1 n1 c1)).setCell ⟨w.heap.size + 1, 2, none⟩ (.int .i64 E1)) = T := ⟨_, rfl⟩
  have k0 : T.heap[w.heap.size]? = some (.cells #[.bool b2, .slice a2 n2 c2, .int .i64 E2] 41) := by rw [← hT]; exact tri8_else (tri8_all q0 _ _ _) (by omega)
  have k1 : T.heap[w.heap.size + 1]? = some (.cells #[.bool b1, .slice a1 n1 c1, .int .i64 E1] 41) := by rw [← hT]; exact tri8_all q1s _ _ _
  have k2 : T.heap[w.heap.size + 1 + 1]? = some (.cells #[.bool false, .slice none 0 0, .int .i64 0] 41) := by rw [← hT]; exact tri8_else (tri8_else q2 (by omega)) (by omega)
  have dT1 : Dn T b1 (.slice a1 n1 c1) M1 := by rw [← hT]; exact ((HD1.out.below g1).tri8 q0 b2 a2 n2 c2 (.int .i64 E2)).tri8 q1s b1 a1 n1 c1 (.int .i64 E1)
  have dT2 : Dn T b2 (.slice a2 n2 c2) M2 := by rw [← hT]; exact ((HD2.out.below g1).tri8 q0 b2 a2 n2 c2 (.int .i64 E2)).tri8 q1s b1 a1 n1 c1 (.int .i64 E1)
  have GT : Below w.heap.size w T := by rw [← hT]; exact below_tri8 (below_tri8 (bl_trans8 HB.out g1) (Nat.le_refl _) _ _ _) (by omega) _ _ _
  clear q0 q1 q2 q1s
  have HTK0 := hide k0
  have HTK1 := hide k1
  have HTK2 := hide k2
  have HTD1 := hide dT1
  have HTD2 := hide dT2
  have HGT := hide GT
  obtain ⟨y0, y1, y2⟩ := tri8 k1
  obtain ⟨z0, z1, z2⟩ := tri8 k0
  have CL := len_any (.slice a1 n1 c1) M1.natAbs T dT1.2
  clear k0 k1 k2 dT1 dT2 GT g1
  generalize hgi : (g : Int) = gi at *
  have HGI := hide hgi
  have hgi2 : E2 - E1 = gi := hg
  have HLB : Hid (blen M1.natAbs ≤ 4000000000000) := hide f1
  obtain ⟨lb, hlb⟩ : ∃ lb, blen M1.natAbs = lb := ⟨_, rfl⟩
  rw [hlb] at CL hbs HLB
  have hlb9 : lb ≤ 4000000000000 := HLB.out
  have wl : IntKind.i64.wrap (67108864 + (lb : Int)) = 67108864 + (lb : Int) := by rw [IntKind.wrap_i64]; omega
  have wl2 : IntKind.i64.wrap (67108864 + (lb : Int) + 2) = 67108864 + (lb : Int) + 2 := by rw [IntKind.wrap_i64]; omega
  have HLL := hide hlb
  clear hlb hg
  by_cases hfar : 67108864 + lb + 2 < g
  · have hi : 67108864 + (lb : Int) + 2 < gi := by rw [← HGI.out]; omega
    have HBIG : Hid (67108864 + blen M1.natAbs < blen (omz (M1 + M2 * 2 ^ g)).natAbs) := hide (by
      have h9 := plus_long (M1 := M1) (M2 := M2) (g := g) (by have := HM.out; omega) (by rw [HLL.out]; omega) hodd
      rw [HLL.out]
      omega)
    generalize omz (M1 + M2 * 2 ^ g) = RM at *
    generalize oe (M1 + M2 * 2 ^ g) E1 = RE at *
    have hf9 := tri8f HTK2.out
    obtain ⟨m0, m1, m2⟩ := tri8 HTK2.out
    clear hbs hodd
    go_wp2_with fail
    refine CL.mono ?_
    rintro e wn ⟨rfl, hw⟩; rw [hw]; clear hw wn CL
    go_wp2
    have T3 := tri8_all HTK2.out (.bool false) (.slice none 0 0) (.int .i64 0)
    have T4 := below_tri8 HGT.out (show w.heap.size ≤ w.heap.size + 1 + 1 by omega) (.bool false) (.slice none 0 0) (.int .i64 0)
    obtain ⟨p0, p1, p2⟩ := tri8 T3
    have HE := hide T4
    clear T3 T4
    generalize ((T.setCell ⟨w.heap.size + 1 + 1, 0, none⟩ (.bool false)).setCell ⟨w.heap.size + 1 + 1, 1, none⟩ (.slice none 0 0)).setCell ⟨w.heap.size + 1 + 1, 2, none⟩ (.int .i64 0) = w5 at *
    refine bodyPost_ret (v := .tuple #[.agg #[.bool false, .slice none 0 0, .int .i64 0], .bool false]) (by simp [results, Tryz.results39, go_sem, p0, p1, p2]) rfl ?_
    exact ⟨⟨_, _, _, _, _, _, rfl, .inr ⟨rfl, HBIG.out, ⟨rfl, Num.nil8 _⟩⟩⟩, HE.out⟩
  · have hi : decide (67108864 + (lb : Int) + 2 < gi) = false := decide_eq_false (by rw [← HGI.out]; omega)
    have hi2 : gi ≤ 67108864 + (lb : Int) + 2 := by rw [← HGI.out]; omega
    have hbm : blen (M2 * 2 ^ g + M1).natAbs ≤ 1125899906840000 := by
      rw [Int.add_comm]
      rcases hbs with h | h
      · exact h
      · exact absurd h hfar
    have hbh : blen (M2 * 2 ^ g).natAbs ≤ 1125899906840000 := by
      have h9 := plus_blen (M1 := 0) (M2 := M2) (g := g) (n := 30000000000000) (by decide) (by omega)
      rw [Int.zero_add] at h9
      omega
    have g0 : Below T.drew.heap.size T.drew T.drew := Below.refl _ _
    have HSH := rzshift_any b2 a2 n2 c2 M2 g T.drew (HTD2.out.below (Below.refl _ _).drew).zn (by omega)
    rw [HGI.out] at HSH
    have HAD := hide (fun (W : World) (v : Value) (h : Zn W v (M2 * 2 ^ g)) (hg : Below T.drew.heap.size T.drew W) => rzadd_any v (.agg #[.bool b1, .slice a1 n1 c1]) (M2 * 2 ^ g) M1 W h ((HTD1.out.below (Below.refl _ _).drew).below hg).zn hbh (Nat.le_trans f1 (by omega)))
    have HOF := hide (fun (W : World) (b3 : Bool) (a3 : Option Addr) (n3 c3 : Nat) (h : Zn W (.agg #[.bool b3, .slice a3 n3 c3]) (M2 * 2 ^ g + M1)) => rdOf_any b3 a3 n3 c3 (M2 * 2 ^ g + M1) E1 W h hbm (by omega) (by omega))
    rw [Int.add_comm (M2 * 2 ^ g) M1] at HAD HOF
    have KS := hide (fun (W : World) (hg : Below T.drew.heap.size T.drew W) => show W.cell? ⟨w.heap.size, 0, none⟩ = some (.bool b2) ∧ W.cell? ⟨w.heap.size, 1, none⟩ = some (.slice a2 n2 c2) ∧ W.cell? ⟨w.heap.size, 2, none⟩ = some (.int .i64 E2) ∧ W.cell? ⟨w.heap.size + 1, 0, none⟩ = some (.bool b1) ∧ W.cell? ⟨w.heap.size + 1, 1, none⟩ = some (.slice a1 n1 c1) ∧ W.cell? ⟨w.heap.size + 1, 2, none⟩ = some (.int .i64 E1) from by
      obtain ⟨u0, u1, u2⟩ := tri8 (block_upW hg (show T.drew.heap[w.heap.size]? = some (.cells #[.bool b2, .slice a2 n2 c2, .int .i64 E2] 41) from HTK0.out))
      obtain ⟨u3, u4, u5⟩ := tri8 (block_upW hg (show T.drew.heap[w.heap.size + 1]? = some (.cells #[.bool b1, .slice a1 n1 c1, .int .i64 E1] 41) from HTK1.out))
      exact ⟨u0, u1, u2, u3, u4, u5⟩)
    have so : ∀ (W : World) (k : Nat) (u : Value) (k' : Nat), (W.setCell ⟨w.heap.size + 1 + 1, k, none⟩ u).cell? ⟨w.heap.size, k', none⟩ = W.cell? ⟨w.heap.size, k', none⟩ := fun W k u k' => cell_other8 (by omega)
    have so2 : ∀ (W : World) (k : Nat) (u : Value) (k' : Nat), (W.setCell ⟨w.heap.size + 1 + 1, k, none⟩ u).cell? ⟨w.heap.size + 1, k', none⟩ = W.cell? ⟨w.heap.size + 1, k', none⟩ := fun W k u k' => cell_other8 (by omega)
    have HD := hide (show Below w.heap.size w T.drew from HGT.out.drew)
    clear hbm hbh hbs hodd
    generalize omz (M1 + M2 * 2 ^ g) = RM at *
    generalize oe (M1 + M2 * 2 ^ g) E1 = RE at *
    generalize M1 + M2 * 2 ^ g = RZ at *
    generalize M2 * 2 ^ g = RH at *
    go_wp2_with fail
    refine CL.mono ?_
    rintro e wn ⟨rfl, hw⟩; rw [hw]; clear hw wn CL
    go_wp2
    go_region_held3 (fun w' => w'.cell? ⟨w.heap.size, 0, none⟩ = some (.bool b2) ∧ w'.cell? ⟨w.heap.size, 1, none⟩ = some (.slice a2 n2 c2) ∧ w'.cell? ⟨w.heap.size, 2, none⟩ = some (.int .i64 E2) ∧ w'.cell? ⟨w.heap.size + 1, 0, none⟩ = some (.bool b1) ∧ w'.cell? ⟨w.heap.size + 1, 1, none⟩ = some (.slice a1 n1 c1) ∧ w'.cell? ⟨w.heap.size + 1, 2, none⟩ = some (.int .i64 E1)) (first | with_reducible exact KS.out _ g3 | with_reducible exact KS.out _ g2 | with_reducible exact KS.out _ g1 | with_reducible exact KS.out _ g0 | (refine ⟨?_, ?_, ?_, ?_, ?_, ?_⟩ <;> (first | rw [so, so, so] | rw [so2, so2, so2]) <;> (first | exact (KS.out _ g3).1 | exact (KS.out _ g3).2.1 | exact (KS.out _ g3).2.2.1 | exact (KS.out _ g3).2.2.2.1 | exact (KS.out _ g3).2.2.2.2.1 | exact (KS.out _ g3).2.2.2.2.2))) (first
      | (go_at_call 53; refine HSH.mono ?_; rintro e' t2 ⟨⟨b3, a3, n3, c3, rfl, Z2⟩, g1⟩)
      | (go_at_call 69; refine (HAD.out t2 _ Z2 g1).mono ?_; rintro e' t3 ⟨⟨b5, a5, n5, c5, rfl, Z3⟩, hb2⟩; have g2 := bl_trans8 g1 hb2)
      | (go_at_call 50; refine (HOF.out t3 b5 a5 n5 c5 Z3).mono ?_; rintro e' t4 ⟨⟨b4, a4, n4, c4, rfl, N4⟩, hb3⟩; have g3 := bl_trans8 g2 hb3; have hz := block_upW g3 (show T.drew.heap[w.heap.size + 1 + 1]? = some (.cells #[.bool false, .slice none 0 0, .int .i64 0] 41) from HTK2.out); have hf := tri8f hz; obtain ⟨m0, m1, m2⟩ := tri8 hz))
    have T3 := tri8_all hz (.bool b4) (.slice a4 n4 c4) (.int .i64 RE)
    have T4 := below_tri8 (bl_trans8 HD.out g3) (show w.heap.size ≤ w.heap.size + 1 + 1 by omega) (.bool b4) (.slice a4 n4 c4) (.int .i64 RE)
    have T5 := N4.tri8 hz b4 a4 n4 c4 (.int .i64 RE)
    obtain ⟨p0, p1, p2⟩ := tri8 T3
    have HE := hide (And.intro T5 T4)
    clear T3 T4 T5 so so2 m0 m1 m2 hf KS g0 g1 g2 g3 hb2 hb3 HSH hz N4 Z2 Z3 HOF HAD
    generalize ((t4.setCell ⟨w.heap.size + 1 + 1, 0, none⟩ (.bool b4)).setCell ⟨w.heap.size + 1 + 1, 1, none⟩ (.slice a4 n4 c4)).setCell ⟨w.heap.size + 1 + 1, 2, none⟩ (.int .i64 RE) = w5 at *
    go_wp2
    refine bodyPost_ret (v := .tuple #[.agg #[.bool b4, .slice a4 n4 c4, .int .i64 RE], .bool true]) (by simp [results, Tryz.results39, go_sem, p0, p1, p2]) rfl ?_
    exact ⟨⟨_, _, _, _, _, _, rfl, .inl ⟨rfl, HE.out.1, rfl⟩⟩, HE.out.2⟩

end Go.Proofs.YtolebfnkmjmfnaaGreatDoor

namespace Go.Proofs.YtolebfnkmjmfnaaGreatDoor
open Go.RowKit
open Lm
attribute [local go_sem ↓] Go.wp_at_zero Go.wp_at_succ

theorem Nr8.odd {M E : Int} (h : Nr8 M E) (h0 : M ≠ 0) : M.natAbs % 2 = 1 := by
  rcases h with ⟨h, _⟩ | h
  · exact absurd h h0
  · exact h

theorem rdAdd_k (b1 : Bool) (a1 : Option Addr) (n1 c1 : Nat) (M1 E1 : Int) (b2 : Bool) (a2 : Option Addr) (n2 c2 : Nat) (M2 E2 : Int) (w : World) (hD1 : Dn w b1 (.slice a1 n1 c1) M1) (hD2 : Dn w b2 (.slice a2 n2 c2) M2) (r1 : Nr8 M1 E1) (r2 : Nr8 M2 E2) (f1 : blen M1.natAbs ≤ 4000000000000) (f2 : blen M2.natAbs ≤ 4000000000000) (he1 : -1152921504606846976 ≤ E1) (he2 : E1 ≤ 1152921504606846976) (he3 : -1152921504606846976 ≤ E2) (he4 : E2 ≤ 1152921504606846976) :
    Calls Tryz.prog 39 #[.agg #[.bool b1, .slice a1 n1 c1, .int .i64 E1], .agg #[.bool b2, .slice a2 n2 c2, .int .i64 E2]] w (AddK w (if M1 = 0 then blen M2.natAbs else if M2 = 0 then blen M1.natAbs else if E2 ≤ E1 then blen M2.natAbs else blen M1.natAbs) (omz (sm M1 E1 M2 E2)) (oe (sm M1 E1 M2 E2) (min E1 E2))) := by
  by_cases h1 : M1 = 0
  · subst h1
    rw [(sm_zero M2 E1 E2).1, (sm_zero M2 E1 E2).2, r2.stay.1, r2.stay.2]
    exact rdAdd_zero1 b1 a1 n1 c1 E1 b2 a2 n2 c2 M2 E2 w hD1 hD2 _
  · by_cases h2 : M2 = 0
    · subst h2
      rw [sm_comm, Int.min_comm, (sm_zero M1 E2 E1).1, (sm_zero M1 E2 E1).2, r1.stay.1, r1.stay.2]
      exact rdAdd_zero2 b1 a1 n1 c1 M1 E1 b2 a2 n2 c2 E2 w hD1 hD2 h1 _
    · by_cases hl : E2 ≤ E1
      · obtain ⟨g, hg⟩ : ∃ g : Nat, E1 - E2 = (g : Int) := ⟨(E1 - E2).toNat, by omega⟩
        have hm : min E1 E2 = E2 := by omega
        have hs : sm M1 E1 M2 E2 = M2 + M1 * 2 ^ g := by
          unfold sm
          rw [hm, hg, show (E2 - E2).toNat = 0 by omega, Int.toNat_natCast, Int.pow_zero, Int.mul_one, Int.add_comm]
        rw [hs, hm, if_neg h1, if_neg h2, if_pos hl]
        exact rdAdd_ge b1 a1 n1 c1 M1 E1 b2 a2 n2 c2 M2 E2 g w hD1 hD2 h1 h2 (r2.odd h2) hg f1 f2 he1 he2 he3 he4
      · obtain ⟨g, hg⟩ : ∃ g : Nat, E2 - E1 = (g : Int) := ⟨(E2 - E1).toNat, by omega⟩
        have hm : min E1 E2 = E1 := by omega
        have hs : sm M1 E1 M2 E2 = M1 + M2 * 2 ^ g := by
          unfold sm
          rw [hm, hg, show (E1 - E1).toNat = 0 by omega, Int.toNat_natCast, Int.pow_zero, Int.mul_one]
        rw [hs, hm, if_neg h1, if_neg h2, if_neg hl]
        exact rdAdd_lt b1 a1 n1 c1 M1 E1 b2 a2 n2 c2 M2 E2 g w hD1 hD2 h1 h2 (r1.odd h1) hg (by omega) f1 f2 he1 he2 he3 he4

theorem rdAdd_any (b1 : Bool) (a1 : Option Addr) (n1 c1 : Nat) (M1 E1 : Int) (b2 : Bool) (a2 : Option Addr) (n2 c2 : Nat) (M2 E2 : Int) (w : World) (hD1 : Dn w b1 (.slice a1 n1 c1) M1) (hD2 : Dn w b2 (.slice a2 n2 c2) M2) (r1 : Nr8 M1 E1) (r2 : Nr8 M2 E2) (f1 : blen M1.natAbs ≤ 4000000000000) (f2 : blen M2.natAbs ≤ 4000000000000) (he1 : -1152921504606846976 ≤ E1) (he2 : E1 ≤ 1152921504606846976) (he3 : -1152921504606846976 ≤ E2) (he4 : E2 ≤ 1152921504606846976) :
    Calls Tryz.prog 39 #[.agg #[.bool b1, .slice a1 n1 c1, .int .i64 E1], .agg #[.bool b2, .slice a2 n2 c2, .int .i64 E2]] w (AddR w (omz (sm M1 E1 M2 E2)) (oe (sm M1 E1 M2 E2) (min E1 E2))) :=
  (rdAdd_k b1 a1 n1 c1 M1 E1 b2 a2 n2 c2 M2 E2 w hD1 hD2 r1 r2 f1 f2 he1 he2 he3 he4).mono fun _ _ h => h.r

end Go.Proofs.YtolebfnkmjmfnaaGreatDoor

namespace Go.Proofs.YtolebfnkmjmfnaaGreatDoor
open Go.RowKit
open Lm
attribute [local go_sem ↓] Go.wp_at_zero Go.wp_at_succ

/-- What the document's Sum answers: M times 2^E, or an error. -/
def SumR (w : World) (M E : Int) (e : Ending) (w' : World) : Prop :=
  (∃ b a n k E' f, e = .returned (.tuple #[.agg #[.bool b, .slice a n k, .int .i64 E'], .int .i64 f]) ∧
    ((f = 0 ∧ Dn w' b (.slice a n k) M ∧ E' = E ∧ blen M.natAbs ≤ 67108864 ∧ fitE E = true) ∨ (f = 3 ∧ 67108864 < blen M.natAbs) ∨ (f = 80 ∧ blen M.natAbs ≤ 67108864 ∧ fitE E = false))) ∧ Below w.heap.size w w'

set_option maxRecDepth 20000 in
set_option maxHeartbeats 1000000 in
theorem rdSum_any (b1 : Bool) (a1 : Option Addr) (n1 c1 : Nat) (E1 : Int) (b2 : Bool) (a2 : Option Addr) (n2 c2 : Nat) (E2 : Int) (M E : Int) (w : World) (hadd : ∀ W, Below w.heap.size w W → Calls Tryz.prog 39 #[.agg #[.bool b1, .slice a1 n1 c1, .int .i64 E1], .agg #[.bool b2, .slice a2 n2 c2, .int .i64 E2]] W (AddR W M E)) :
    Calls Tryz.prog 13 #[.agg #[.bool b1, .slice a1 n1 c1, .int .i64 E1], .agg #[.bool b2, .slice a2 n2 c2, .int .i64 E2]] w (SumR w M E) := by
  obtain ⟨w0, hw0, hb0, h0, h1, h2⟩ := enter3 w (.cells #[.bool b1, .slice a1 n1 c1, .int .i64 E1] 41) (.cells #[.bool b2, .slice a2 n2 c2, .int .i64 E2] 41) (.cells #[.bool false, .slice none 0 0, .int .i64 0] 41)
  obtain ⟨x0, x1, x2⟩ := tri8 h0
  obtain ⟨x3, x4, x5⟩ := tri8 h1
  have HA := hadd w0 hb0
  have HK2 := hide h2
  have HB := hide hb0
  clear h0 h1 h2 hb0 hadd
  go_enter Tryz.func13, Tryz.ntmps13
  go_wp2_with fail
  refine HA.mono ?_
  rintro e t1 ⟨⟨b3, a3, n3, c3, e3, ok, rfl, hcase⟩, g1⟩
  obtain ⟨w4, hw4, hb4, h4⟩ := enter1 t1 (.cells #[.bool b3, .slice a3 n3 c3, .int .i64 e3] 41)
  have g4 := bl_trans8 g1 hb4
  have HC4 := hide (block_upW g4 HK2.out)
  have HG4 := hide (bl_trans8 HB.out g4)
  have HK4 := hide h4
  clear x0 x1 x2 x3 x4 x5 HA HK2 HB g4 h4
  rcases hcase with ⟨rfl, hd, rfl⟩ | ⟨rfl, hbig, _⟩
  · have HTD := rtold_any b3 a3 n3 c3 M e3 w4 (hd.below hb4)
    obtain ⟨x0, x1, x2⟩ := tri8 HK4.out
    clear hd hb4 g1
    go_wp2_with fail
    refine HTD.mono ?_
    rintro e t2 ⟨⟨b5, a5, n5, c5, e5, f, rfl, hT⟩, g2⟩
    have HC1 := hide (block_upW g2 HC4.out)
    have HG := hide (bl_trans8 HG4.out g2)
    have hf1 := tri8f HC1.out
    obtain ⟨m0, m1, m2⟩ := tri8 HC1.out
    have HTT := hide hT
    clear g2 HTD hT x0 x1 x2
    go_wp2
    have T3 := tri8_all HC1.out (.bool b5) (.slice a5 n5 c5) (.int .i64 e5)
    have T4 := below_tri8 HG.out (show w.heap.size ≤ w.heap.size + 1 + 1 by omega) (.bool b5) (.slice a5 n5 c5) (.int .i64 e5)
    have T5 := fun (h : Dn t2 b5 (.slice a5 n5 c5) M) => h.tri8 HC1.out b5 a5 n5 c5 (.int .i64 e5)
    obtain ⟨p0, p1, p2⟩ := tri8 T3
    have HE := hide (And.intro T4 T5)
    clear T3 T4 T5
    generalize ((t2.setCell ⟨w.heap.size + 1 + 1, 0, none⟩ (.bool b5)).setCell ⟨w.heap.size + 1 + 1, 1, none⟩ (.slice a5 n5 c5)).setCell ⟨w.heap.size + 1 + 1, 2, none⟩ (.int .i64 e5) = w5 at *
    refine bodyPost_ret (v := .tuple #[.agg #[.bool b5, .slice a5 n5 c5, .int .i64 e5], .int .i64 f]) (by simp [results, Tryz.results13, go_sem, p0, p1, p2]) rfl ?_
    refine ⟨⟨_, _, _, _, _, _, rfl, ?_⟩, HE.out.1⟩
    rcases HTT.out with ⟨q1, q2, q3, q4, q5, q6, q7⟩ | ⟨q1, q2⟩ | ⟨q1, q2, q3⟩
    · refine .inl ⟨q1, HE.out.2 ?_, q4, q5, q6⟩
      rw [q2, q3]; exact q7
    · exact .inr (.inl ⟨q1, q2⟩)
    · exact .inr (.inr ⟨q1, q2, q3⟩)
  · have HBIG := hide hbig
    have hf1 := tri8f HC4.out
    obtain ⟨m0, m1, m2⟩ := tri8 HC4.out
    clear hbig hb4 g1
    go_wp2
    have T3 := tri8_all HC4.out (.bool false) (.slice none 0 0) (.int .i64 0)
    have T4 := below_tri8 HG4.out (show w.heap.size ≤ w.heap.size + 1 + 1 by omega) (.bool false) (.slice none 0 0) (.int .i64 0)
    obtain ⟨p0, p1, p2⟩ := tri8 T3
    have HE := hide T4
    clear T3 T4
    generalize ((w4.setCell ⟨w.heap.size + 1 + 1, 0, none⟩ (.bool false)).setCell ⟨w.heap.size + 1 + 1, 1, none⟩ (.slice none 0 0)).setCell ⟨w.heap.size + 1 + 1, 2, none⟩ (.int .i64 0) = w5 at *
    refine bodyPost_ret (v := .tuple #[.agg #[.bool false, .slice none 0 0, .int .i64 0], .int .i64 3]) (by simp [results, Tryz.results13, go_sem, p0, p1, p2]) rfl ?_
    exact ⟨⟨_, _, _, _, _, _, rfl, .inr (.inl ⟨rfl, HBIG.out⟩)⟩, HE.out⟩

end Go.Proofs.YtolebfnkmjmfnaaGreatDoor

namespace Go.Proofs.YtolebfnkmjmfnaaGreatDoor
open Go.RowKit
open Lm
attribute [local go_sem ↓] Go.wp_at_zero Go.wp_at_succ

set_option maxRecDepth 20000 in
set_option maxHeartbeats 1000000 in
theorem rdRound_same (b : Bool) (a : Option Addr) (n c : Nat) (M E pos m : Int) (w : World) (h : Dn w b (.slice a n c) M) (hs : M = 0 ∨ pos ≤ E) :
    Calls Tryz.prog 17 #[.agg #[.bool b, .slice a n c, .int .i64 E], .int .i64 pos, .int .i64 m] w (DnDone w M E) := by
  obtain ⟨w0, hw0, hb0, h0, h1'⟩ := enter2 w (.cells #[.bool b, .slice a n c, .int .i64 E] 41) (.cells #[.bool false, .slice none 0 0, .int .i64 0] 41)
  obtain ⟨k0, k1, k2⟩ := tri8 h0
  have HS := rzsign_any _ M w0 (h.below hb0).zn
  have H0 := hide h0
  have H1 := hide h1'
  have HB := hide hb0
  have HD := hide h
  clear h0 h1' hb0 h
  by_cases hM : M = 0
  · have hsg : (M.sign == 0) = true := by rw [hM]; rfl
    generalize M.sign = sg' at *
    clear hM hs
    go_enter Tryz.func17, Tryz.ntmps17
    go_wp2_with fail
    refine HS.mono ?_
    rintro e t1 ⟨rfl, g1⟩
    have HC1 := hide (block_upW g1 H1.out)
    have HG := hide (bl_trans8 HB.out g1)
    have HDN := hide (HD.out.below HG.out)
    have hf1 := tri8f HC1.out
    obtain ⟨m0, m1, m2⟩ := tri8 HC1.out
    obtain ⟨l0, l1, l2⟩ := tri8 (block_upW g1 H0.out)
    clear g1 HS
    go_wp2
    have T3 := tri8_all HC1.out (.bool b) (.slice a n c) (.int .i64 E)
    have T4 := below_tri8 HG.out (show w.heap.size ≤ w.heap.size + 1 by omega) (.bool b) (.slice a n c) (.int .i64 E)
    have T5 := HDN.out.tri8 HC1.out b a n c (.int .i64 E)
    obtain ⟨p0, p1, p2⟩ := tri8 T3
    have HE := hide (And.intro T5 T4)
    clear T3 T4 T5
    generalize ((t1.setCell ⟨w.heap.size + 1, 0, none⟩ (.bool b)).setCell ⟨w.heap.size + 1, 1, none⟩ (.slice a n c)).setCell ⟨w.heap.size + 1, 2, none⟩ (.int .i64 E) = w5 at *
    refine bodyPost_ret (v := .agg #[.bool b, .slice a n c, .int .i64 E]) (by simp [results, Tryz.results17, go_sem, p0, p1, p2]) rfl ?_
    exact ⟨⟨_, _, _, _, rfl, HE.out.1⟩, HE.out.2⟩
  · have hsg : (M.sign == 0) = false := by
      rw [beq_eq_false_iff_ne]
      intro h; exact hM (Int.sign_eq_zero_iff_zero.1 h)
    have hpe : pos ≤ E := by rcases hs with hs | hs; exact absurd hs hM; exact hs
    generalize M.sign = sg' at *
    clear hM hs
    go_enter Tryz.func17, Tryz.ntmps17
    go_wp2_with fail
    refine HS.mono ?_
    rintro e t1 ⟨rfl, g1⟩
    have HC1 := hide (block_upW g1 H1.out)
    have HG := hide (bl_trans8 HB.out g1)
    have HDN := hide (HD.out.below HG.out)
    have hf1 := tri8f HC1.out
    obtain ⟨m0, m1, m2⟩ := tri8 HC1.out
    obtain ⟨l0, l1, l2⟩ := tri8 (block_upW g1 H0.out)
    clear g1 HS
    go_wp2
    have T3 := tri8_all HC1.out (.bool b) (.slice a n c) (.int .i64 E)
    have T4 := below_tri8 HG.out (show w.heap.size ≤ w.heap.size + 1 by omega) (.bool b) (.slice a n c) (.int .i64 E)
    have T5 := HDN.out.tri8 HC1.out b a n c (.int .i64 E)
    obtain ⟨p0, p1, p2⟩ := tri8 T3
    have HE := hide (And.intro T5 T4)
    clear T3 T4 T5
    generalize ((t1.setCell ⟨w.heap.size + 1, 0, none⟩ (.bool b)).setCell ⟨w.heap.size + 1, 1, none⟩ (.slice a n c)).setCell ⟨w.heap.size + 1, 2, none⟩ (.int .i64 E) = w5 at *
    refine bodyPost_ret (v := .agg #[.bool b, .slice a n c, .int .i64 E]) (by simp [results, Tryz.results17, go_sem, p0, p1, p2]) rfl ?_
    exact ⟨⟨_, _, _, _, rfl, HE.out.1⟩, HE.out.2⟩

set_option maxRecDepth 20000 in
set_option maxHeartbeats 2000000 in
theorem rdRound_far (b : Bool) (a : Option Addr) (n c : Nat) (M E pos m : Int) (s : Nat) (w : World) (h : Dn w b (.slice a n c) M) (hM : M ≠ 0) (hs : pos - E = (s : Int)) (hs0 : 0 < s) (hfar : blen M.natAbs + 2 < s) (hs3 : s ≤ 4611686018427387904) (hp1 : -1152921504606846976 ≤ pos) (hp2 : pos ≤ 1152921504606846976) (hm : m = 0 ∨ m = 1 ∨ m = 2) :
    Calls Tryz.prog 17 #[.agg #[.bool b, .slice a n c, .int .i64 E], .int .i64 pos, .int .i64 m] w (DnDone w (omz (zz b (rq b M.natAbs s m))) (oe (zz b (rq b M.natAbs s m)) pos)) := by
  rw [rq_far b M.natAbs s m hfar hm]
  obtain ⟨w0, hw0, hb0, h0, h1'⟩ := enter2 w (.cells #[.bool b, .slice a n c, .int .i64 E] 41) (.cells #[.bool false, .slice none 0 0, .int .i64 0] 41)
  obtain ⟨k0, k1, k2⟩ := tri8 h0
  have HS := rzsign_any _ M w0 (h.below hb0).zn
  have hsg : (M.sign == 0) = false := by
    rw [beq_eq_false_iff_ne]
    intro h; exact hM (Int.sign_eq_zero_iff_zero.1 h)
  have hpe : ¬ pos ≤ E := by omega
  have wd : IntKind.i64.wrap (s : Int) = (s : Int) := by rw [IntKind.wrap_i64]; omega
  have HLN := hide (fun (W : World) (hg : Below w.heap.size w W) => len_any (.slice a n c) M.natAbs W (h.2.below hg))
  have H0 := hide h0
  have H1 := hide h1'
  have HB := hide hb0
  have HD := hide h
  generalize M.sign = sg' at *
  have i1 : ((blen M.natAbs : Nat) : Int) + 2 < (s : Int) := by omega
  have w2 : IntKind.i64.wrap (((blen M.natAbs : Nat) : Int) + 2) = ((blen M.natAbs : Nat) : Int) + 2 := by rw [IntKind.wrap_i64]; omega
  generalize blen M.natAbs = l at *
  clear hfar
  rcases hm with rfl | rfl | rfl
  · cases b
    · rw [show zz false (if (0 : Int) = 0 ∧ false = true ∨ (0 : Int) = 1 ∧ false = false then 1 else 0) = 0 by decide, omz_zero, show oe 0 pos = 0 by simp [oe]]
      clear h0 h1' hb0 h hM
      go_enter Tryz.func17, Tryz.ntmps17
      go_wp2_with fail
      refine HS.mono ?_
      rintro e t1 ⟨rfl, g1⟩
      have HC1 := hide (block_upW g1 H1.out)
      have HC0 := hide (block_upW g1 H0.out)
      have HG := hide (bl_trans8 HB.out g1)
      have hf1 := tri8f HC1.out
      obtain ⟨m0, m1, m2⟩ := tri8 HC1.out
      obtain ⟨l0, l1, l2⟩ := tri8 HC0.out
      have HL := HLN.out t1 HG.out
      clear g1 HS HLN H0 H1 HB
      go_wp2_with fail
      refine HL.mono ?_
      rintro e wn ⟨rfl, hw⟩; rw [hw]; clear hw wn HL
      have HDN := hide (show Dn t1 false (.slice none 0 0) 0 from ⟨rfl, Num.nil8 _⟩)
      go_wp2
      have T3 := tri8_all HC1.out (.bool false) (.slice none 0 0) (.int .i64 0)
      have T4 := below_tri8 HG.out (show w.heap.size ≤ w.heap.size + 1 by omega) (.bool false) (.slice none 0 0) (.int .i64 0)
      have T5 := HDN.out.tri8 HC1.out false none 0 0 (.int .i64 0)
      obtain ⟨p0, p1, p2⟩ := tri8 T3
      have HE := hide (And.intro T5 T4)
      clear T3 T4 T5
      generalize ((t1.setCell ⟨w.heap.size + 1, 0, none⟩ (.bool false)).setCell ⟨w.heap.size + 1, 1, none⟩ (.slice none 0 0)).setCell ⟨w.heap.size + 1, 2, none⟩ (.int .i64 0) = w5 at *
      refine bodyPost_ret (v := .agg #[.bool false, .slice none 0 0, .int .i64 0]) (by simp [results, Tryz.results17, go_sem, p0, p1, p2]) rfl ?_
      exact ⟨⟨_, _, _, _, rfl, HE.out.1⟩, HE.out.2⟩
    · rw [show zz true (if (0 : Int) = 0 ∧ true = true ∨ (0 : Int) = 1 ∧ true = false then 1 else 0) = -1 by decide]
      clear h0 h1' hb0 h hM
      go_enter Tryz.func17, Tryz.ntmps17
      go_wp2_with fail
      refine HS.mono ?_
      rintro e t1 ⟨rfl, g1⟩
      have HC1 := hide (block_upW g1 H1.out)
      have HC0 := hide (block_upW g1 H0.out)
      have HG := hide (bl_trans8 HB.out g1)
      have hf1 := tri8f HC1.out
      obtain ⟨m0, m1, m2⟩ := tri8 HC1.out
      obtain ⟨l0, l1, l2⟩ := tri8 HC0.out
      have HL := HLN.out t1 HG.out
      clear g1 HS HLN H0 H1 HB
      go_wp2_with fail
      refine HL.mono ?_
      rintro e wn ⟨rfl, hw⟩; rw [hw]; clear hw wn HL
      have HI := rdInt_any (-1) pos t1 (by decide) (by decide) (by omega) (by omega)
      generalize omz (-1) = RM at *
      generalize oe (-1) pos = RE at *
      go_wp2_with fail
      refine HI.mono ?_
      rintro e t2 ⟨⟨b2, a2, n2, c2, rfl, d2⟩, g2⟩
      have HC2 := hide (block_upW g2 HC1.out)
      have HG2 := hide (bl_trans8 HG.out g2)
      have HDN := hide d2
      clear g2 d2 HI HC1 HG m0 m1 m2 hf1
      have HC1 := hide HC2.out
      have HG := hide HG2.out
      have hf1 := tri8f HC1.out
      obtain ⟨m0, m1, m2⟩ := tri8 HC1.out
      go_wp2
      have T3 := tri8_all HC1.out (.bool b2) (.slice a2 n2 c2) (.int .i64 RE)
      have T4 := below_tri8 HG.out (show w.heap.size ≤ w.heap.size + 1 by omega) (.bool b2) (.slice a2 n2 c2) (.int .i64 RE)
      have T5 := HDN.out.tri8 HC1.out b2 a2 n2 c2 (.int .i64 RE)
      obtain ⟨p0, p1, p2⟩ := tri8 T3
      have HE := hide (And.intro T5 T4)
      clear T3 T4 T5
      generalize ((t2.setCell ⟨w.heap.size + 1, 0, none⟩ (.bool b2)).setCell ⟨w.heap.size + 1, 1, none⟩ (.slice a2 n2 c2)).setCell ⟨w.heap.size + 1, 2, none⟩ (.int .i64 RE) = w5 at *
      refine bodyPost_ret (v := .agg #[.bool b2, .slice a2 n2 c2, .int .i64 RE]) (by simp [results, Tryz.results17, go_sem, p0, p1, p2]) rfl ?_
      exact ⟨⟨_, _, _, _, rfl, HE.out.1⟩, HE.out.2⟩
  · cases b
    · rw [show zz false (if (1 : Int) = 0 ∧ false = true ∨ (1 : Int) = 1 ∧ false = false then 1 else 0) = 1 by decide]
      clear h0 h1' hb0 h hM
      go_enter Tryz.func17, Tryz.ntmps17
      go_wp2_with fail
      refine HS.mono ?_
      rintro e t1 ⟨rfl, g1⟩
      have HC1 := hide (block_upW g1 H1.out)
      have HC0 := hide (block_upW g1 H0.out)
      have HG := hide (bl_trans8 HB.out g1)
      have hf1 := tri8f HC1.out
      obtain ⟨m0, m1, m2⟩ := tri8 HC1.out
      obtain ⟨l0, l1, l2⟩ := tri8 HC0.out
      have HL := HLN.out t1 HG.out
      clear g1 HS HLN H0 H1 HB
      go_wp2_with fail
      refine HL.mono ?_
      rintro e wn ⟨rfl, hw⟩; rw [hw]; clear hw wn HL
      have HI := rdInt_any 1 pos t1 (by decide) (by decide) (by omega) (by omega)
      generalize omz 1 = RM at *
      generalize oe 1 pos = RE at *
      go_wp2_with fail
      refine HI.mono ?_
      rintro e t2 ⟨⟨b2, a2, n2, c2, rfl, d2⟩, g2⟩
      have HC2 := hide (block_upW g2 HC1.out)
      have HG2 := hide (bl_trans8 HG.out g2)
      have HDN := hide d2
      clear g2 d2 HI HC1 HG m0 m1 m2 hf1
      have HC1 := hide HC2.out
      have HG := hide HG2.out
      have hf1 := tri8f HC1.out
      obtain ⟨m0, m1, m2⟩ := tri8 HC1.out
      go_wp2
      have T3 := tri8_all HC1.out (.bool b2) (.slice a2 n2 c2) (.int .i64 RE)
      have T4 := below_tri8 HG.out (show w.heap.size ≤ w.heap.size + 1 by omega) (.bool b2) (.slice a2 n2 c2) (.int .i64 RE)
      have T5 := HDN.out.tri8 HC1.out b2 a2 n2 c2 (.int .i64 RE)
      obtain ⟨p0, p1, p2⟩ := tri8 T3
      have HE := hide (And.intro T5 T4)
      clear T3 T4 T5
      generalize ((t2.setCell ⟨w.heap.size + 1, 0, none⟩ (.bool b2)).setCell ⟨w.heap.size + 1, 1, none⟩ (.slice a2 n2 c2)).setCell ⟨w.heap.size + 1, 2, none⟩ (.int .i64 RE) = w5 at *
      refine bodyPost_ret (v := .agg #[.bool b2, .slice a2 n2 c2, .int .i64 RE]) (by simp [results, Tryz.results17, go_sem, p0, p1, p2]) rfl ?_
      exact ⟨⟨_, _, _, _, rfl, HE.out.1⟩, HE.out.2⟩
    · rw [show zz true (if (1 : Int) = 0 ∧ true = true ∨ (1 : Int) = 1 ∧ true = false then 1 else 0) = 0 by decide, omz_zero, show oe 0 pos = 0 by simp [oe]]
      clear h0 h1' hb0 h hM
      go_enter Tryz.func17, Tryz.ntmps17
      go_wp2_with fail
      refine HS.mono ?_
      rintro e t1 ⟨rfl, g1⟩
      have HC1 := hide (block_upW g1 H1.out)
      have HC0 := hide (block_upW g1 H0.out)
      have HG := hide (bl_trans8 HB.out g1)
      have hf1 := tri8f HC1.out
      obtain ⟨m0, m1, m2⟩ := tri8 HC1.out
      obtain ⟨l0, l1, l2⟩ := tri8 HC0.out
      have HL := HLN.out t1 HG.out
      clear g1 HS HLN H0 H1 HB
      go_wp2_with fail
      refine HL.mono ?_
      rintro e wn ⟨rfl, hw⟩; rw [hw]; clear hw wn HL
      have HDN := hide (show Dn t1 false (.slice none 0 0) 0 from ⟨rfl, Num.nil8 _⟩)
      go_wp2
      have T3 := tri8_all HC1.out (.bool false) (.slice none 0 0) (.int .i64 0)
      have T4 := below_tri8 HG.out (show w.heap.size ≤ w.heap.size + 1 by omega) (.bool false) (.slice none 0 0) (.int .i64 0)
      have T5 := HDN.out.tri8 HC1.out false none 0 0 (.int .i64 0)
      obtain ⟨p0, p1, p2⟩ := tri8 T3
      have HE := hide (And.intro T5 T4)
      clear T3 T4 T5
      generalize ((t1.setCell ⟨w.heap.size + 1, 0, none⟩ (.bool false)).setCell ⟨w.heap.size + 1, 1, none⟩ (.slice none 0 0)).setCell ⟨w.heap.size + 1, 2, none⟩ (.int .i64 0) = w5 at *
      refine bodyPost_ret (v := .agg #[.bool false, .slice none 0 0, .int .i64 0]) (by simp [results, Tryz.results17, go_sem, p0, p1, p2]) rfl ?_
      exact ⟨⟨_, _, _, _, rfl, HE.out.1⟩, HE.out.2⟩
  · have e0 : zz b (if (2 : Int) = 0 ∧ b = true ∨ (2 : Int) = 1 ∧ b = false then 1 else 0) = 0 := by cases b <;> decide
    rw [e0, omz_zero, show oe 0 pos = 0 by simp [oe]]
    clear h0 h1' hb0 h hM
    go_enter Tryz.func17, Tryz.ntmps17
    go_wp2_with fail
    refine HS.mono ?_
    rintro e t1 ⟨rfl, g1⟩
    have HC1 := hide (block_upW g1 H1.out)
    have HC0 := hide (block_upW g1 H0.out)
    have HG := hide (bl_trans8 HB.out g1)
    have hf1 := tri8f HC1.out
    obtain ⟨m0, m1, m2⟩ := tri8 HC1.out
    obtain ⟨l0, l1, l2⟩ := tri8 HC0.out
    have HL := HLN.out t1 HG.out
    clear g1 HS HLN H0 H1 HB
    go_wp2_with fail
    refine HL.mono ?_
    rintro e wn ⟨rfl, hw⟩; rw [hw]; clear hw wn HL
    have HDN := hide (show Dn t1 false (.slice none 0 0) 0 from ⟨rfl, Num.nil8 _⟩)
    go_wp2
    have T3 := tri8_all HC1.out (.bool false) (.slice none 0 0) (.int .i64 0)
    have T4 := below_tri8 HG.out (show w.heap.size ≤ w.heap.size + 1 by omega) (.bool false) (.slice none 0 0) (.int .i64 0)
    have T5 := HDN.out.tri8 HC1.out false none 0 0 (.int .i64 0)
    obtain ⟨p0, p1, p2⟩ := tri8 T3
    have HE := hide (And.intro T5 T4)
    clear T3 T4 T5
    generalize ((t1.setCell ⟨w.heap.size + 1, 0, none⟩ (.bool false)).setCell ⟨w.heap.size + 1, 1, none⟩ (.slice none 0 0)).setCell ⟨w.heap.size + 1, 2, none⟩ (.int .i64 0) = w5 at *
    refine bodyPost_ret (v := .agg #[.bool false, .slice none 0 0, .int .i64 0]) (by simp [results, Tryz.results17, go_sem, p0, p1, p2]) rfl ?_
    exact ⟨⟨_, _, _, _, rfl, HE.out.1⟩, HE.out.2⟩

set_option maxRecDepth 20000 in
set_option maxHeartbeats 4000000 in
theorem rdRound_near (b : Bool) (a : Option Addr) (n c : Nat) (M E pos m : Int) (s : Nat) (w : World) (h : Dn w b (.slice a n c) M) (hM : M ≠ 0) (hodd : M.natAbs % 2 = 1) (hs : pos - E = (s : Int)) (hs0 : 0 < s) (hfar : s ≤ blen M.natAbs + 2) (hbl : blen M.natAbs ≤ 1125899906809900) (hp1 : -1152921504606846976 ≤ pos) (hp2 : pos ≤ 1152921504606846976) (hm : m = 0 ∨ m = 1 ∨ m = 2) :
    Calls Tryz.prog 17 #[.agg #[.bool b, .slice a n c, .int .i64 E], .int .i64 pos, .int .i64 m] w (DnDone w (omz (zz b (rq b M.natAbs s m))) (oe (zz b (rq b M.natAbs s m)) pos)) := by
  have hMb : M = zz b M.natAbs := by rw [h.1, zz_self]
  have hrb : blen (zz b (rq b M.natAbs s m)).natAbs ≤ 1125899906840000 := by
    rw [zz_abs]
    unfold rq
    have h1 := Nat.div_le_self M.natAbs (2 ^ s)
    have h2 := (blen_le_iff M.natAbs (blen M.natAbs)).1 (Nat.le_refl _)
    have h3 : blen (M.natAbs / 2 ^ s + if ga b M.natAbs s m then 1 else 0) ≤ blen M.natAbs + 1 := by
      refine (blen_le_iff _ _).2 ?_
      rw [Nat.pow_succ]
      have := Nat.two_pow_pos (blen M.natAbs)
      split <;> omega
    omega
  have HRB := hide hrb
  clear hrb
  obtain ⟨w0, hw0, hb0, h0, h1'⟩ := enter2 w (.cells #[.bool b, .slice a n c, .int .i64 E] 41) (.cells #[.bool false, .slice none 0 0, .int .i64 0] 41)
  obtain ⟨k0, k1, k2⟩ := tri8 h0
  have HS := rzsign_any _ M w0 (h.below hb0).zn
  have hsg : (M.sign == 0) = false := by
    rw [beq_eq_false_iff_ne]
    intro h; exact hM (Int.sign_eq_zero_iff_zero.1 h)
  have hpe : ¬ pos ≤ E := by omega
  have wd : IntKind.i64.wrap (s : Int) = (s : Int) := by rw [IntKind.wrap_i64]; omega
  have HLN := hide (fun (W : World) (hg : Below w.heap.size w W) => len_any (.slice a n c) M.natAbs W (h.2.below hg))
  have H0 := hide h0
  have H1 := hide h1'
  have HB := hide hb0
  have HD := hide h
  generalize M.sign = sg' at *
  have i1 : ¬ ((blen M.natAbs : Nat) : Int) + 2 < (s : Int) := by omega
  have w2 : IntKind.i64.wrap (((blen M.natAbs : Nat) : Int) + 2) = ((blen M.natAbs : Nat) : Int) + 2 := by rw [IntKind.wrap_i64]; omega
  rcases hm with rfl | rfl | rfl
  · have HQE : Hid (flq M ((2 ^ s : Nat) : Int) = zz b (rq b M.natAbs s 0)) := hide (by
      have := rq_floor b M.natAbs s hodd hs0
      rw [← hMb] at this; exact this)
    generalize zz b (rq b M.natAbs s 0) = RM at *
    clear hMb
    clear h0 h1' hb0 h hM
    go_enter Tryz.func17, Tryz.ntmps17
    go_wp2_with fail
    refine HS.mono ?_
    rintro e t1 ⟨rfl, g1⟩
    have HC1 := hide (block_upW g1 H1.out)
    have HC0 := hide (block_upW g1 H0.out)
    have HG := hide (bl_trans8 HB.out g1)
    have hf1 := tri8f HC1.out
    obtain ⟨m0, m1, m2⟩ := tri8 HC1.out
    obtain ⟨l0, l1, l2⟩ := tri8 HC0.out
    have HL := HLN.out t1 HG.out
    clear g1 HS HLN H0 H1 HB
    go_wp2_with fail
    refine HL.mono ?_
    rintro e wn ⟨rfl, hw⟩; rw [hw]; clear hw wn HL
    have HI1 := rint_all 1 t1 (by omega)
    go_wp2_with fail
    refine HI1.mono ?_
    rintro e t2 ⟨⟨v2, rfl, N2⟩, g2⟩
    have HSL := rshl_any v2 1 s t2 N2 (by rw [show blen 1 = 1 by decide]; omega)
    rw [Nat.one_mul] at HSL
    have HG2 := hide (bl_trans8 HG.out g2)
    have HC2 := hide (block_upW g2 HC1.out)
    have HC3 := hide (block_upW g2 HC0.out)
    obtain ⟨av2, nv2, cv2, rfl⟩ := N2.sl
    clear HI1 g2 N2
    go_wp2_with fail
    refine HSL.mono ?_
    rintro e t3 ⟨⟨v3, rfl, N3⟩, g3⟩
    obtain ⟨a3, n3, c3, rfl⟩ := N3.sl
    obtain ⟨w4, hw4, hb4, h4, h5⟩ := enter2 t3 (.cells #[.bool false, .slice a3 n3 c3] 39) (.cells #[.bool false, .slice none 0 0] 39)
    have hfz := duof h5
    obtain ⟨z0, z1⟩ := duo h5
    obtain ⟨w4b, hw4b, hb4b, h4b, h5b⟩ : ∃ w4b, (w4.setCell ⟨t3.heap.size + 1, 0, none⟩ (.bool false)).setCell ⟨t3.heap.size + 1, 1, none⟩ (.slice none 0 0) = w4b ∧ Below t3.heap.size t3 w4b ∧ w4b.heap[t3.heap.size]? = some (.cells #[.bool false, .slice a3 n3 c3] 39) ∧ w4b.heap[t3.heap.size + 1]? = some (.cells #[.bool false, .slice none 0 0] 39) := ⟨_, rfl, below_duo hb4 (by omega), duo_other h4 (by omega), duo_all h5⟩
    have hsw : w4b.heap.size = t3.heap.size + 2 := by
      rw [← hw4b]
      have h9 : w4.heap.size = t3.heap.size + 2 := by rw [← hw4, World.size_alloc, World.size_alloc]
      simpa [World.setCell] using h9
    have HSW := hide hsw
    clear hsw
    have g4 := bl_trans8 g3 hb4b
    have HG4 := hide (bl_trans8 HG2.out g4)
    have HC4 := hide (block_upW g4 HC2.out)
    have HC5 := hide (block_upW g4 HC3.out)
    have hp2s := Nat.two_pow_pos s
    have hzs : Zn w4b (.agg #[.bool false, .slice a3 n3 c3]) ((2 ^ s : Nat) : Int) := ⟨.slice a3 n3 c3, by rw [(two_pow_int s).2], by rw [(two_pow_int s).1]; exact N3.below hb4b⟩
    have HZM := (HD.out.below HG4.out).zn
    have hbs : blen (((2 ^ s : Nat) : Int)).natAbs ≤ 1125899906810000 := by
      rw [(two_pow_int s).1]
      have h6 := blen_eq (2 ^ s) s (Nat.le_refl _) (by rw [Nat.pow_succ]; omega)
      omega
    have HQ := rzfloor_any _ _ M ((2 ^ s : Nat) : Int) w4b HZM hzs (by omega) (by omega) hbs
    rw [HQE.out] at HQ
    obtain ⟨u0, u1⟩ := duo h4b
    obtain ⟨u2, u3⟩ := duo h5b
    have hf5 := duof h5b
    obtain ⟨l0, l1, l2⟩ := tri8 HC5.out
    have H5 := hide h5b
    clear HSL g3 g4 hb4 h4 h5 hb4b h4b h5b N3 HZM hzs hbs HC2 HC3 HC0 HC1 HG HG2 hp2s m0 m1 m2 hf1
    go_wp2_with fail
    refine HQ.mono ?_
    rintro e t5 ⟨⟨b5, a5, n5, c5, b6, a6, n6, c6, rfl, Z5, Z6⟩, g5⟩
    have HQ5 := block_upW g5 H5.out
    have hf6 := duof HQ5
    obtain ⟨x0, x1⟩ := duo HQ5
    have d5 := duo_all HQ5 (a' := .bool b5) (b' := .slice a5 n5 c5)
    have HG5 := bl_trans8 HG4.out g5
    have hsz : w.heap.size ≤ t3.heap.size + 1 := by
      have h7 := lt_of_block HC4.out
      have h8 := lt_of_block H5.out
      have h9 := HSW.out
      omega
    have hne : w.heap.size + 1 ≠ t3.heap.size + 1 := by
      intro h
      have h7 := HC4.out
      rw [h, H5.out] at h7
      simp at h7
    have G6 := below_duo HG5 (g := t3.heap.size + 1) (u0 := .bool b5) (u1 := .slice a5 n5 c5) hsz
    have c6' := duo_other (u0 := .bool b5) (u1 := .slice a5 n5 c5) (block_upW g5 HC4.out) hne
    have Z7 := Z5.duo (p1 := b5) (r1 := .slice a5 n5 c5) HQ5
    have HOF := rdOf_any b5 a5 n5 c5 RM pos _ Z7 HRB.out (by omega) (by omega)
    obtain ⟨y0, y1⟩ := duo d5
    have HC6 := hide c6'
    have HG6 := hide G6
    clear HQ HQ5 d5 G6 c6' Z5 Z6 Z7 HG5 g5 HG4 HC4 HC5 H5 hsz hne
    go_wp2_with fail
    generalize (t5.setCell ⟨t3.heap.size + 1, 0, none⟩ (.bool b5)).setCell ⟨t3.heap.size + 1, 1, none⟩ (.slice a5 n5 c5) = t6 at *
    refine HOF.mono ?_
    rintro e t7 ⟨⟨b7, a7, n7, c7, rfl, d7⟩, g7⟩
    have HC1 := hide (block_upW g7 HC6.out)
    have HG := hide (bl_trans8 HG6.out g7)
    have HDN := hide d7
    have hf1 := tri8f HC1.out
    obtain ⟨m0, m1, m2⟩ := tri8 HC1.out
    clear g7 d7 HOF HC6 HG6
    generalize oe RM pos = RE at *
    go_wp2
    have T3 := tri8_all HC1.out (.bool b7) (.slice a7 n7 c7) (.int .i64 RE)
    have T4 := below_tri8 HG.out (show w.heap.size ≤ w.heap.size + 1 by omega) (.bool b7) (.slice a7 n7 c7) (.int .i64 RE)
    have T5 := HDN.out.tri8 HC1.out b7 a7 n7 c7 (.int .i64 RE)
    obtain ⟨p0, p1, p2⟩ := tri8 T3
    have HE := hide (And.intro T5 T4)
    clear T3 T4 T5
    generalize ((t7.setCell ⟨w.heap.size + 1, 0, none⟩ (.bool b7)).setCell ⟨w.heap.size + 1, 1, none⟩ (.slice a7 n7 c7)).setCell ⟨w.heap.size + 1, 2, none⟩ (.int .i64 RE) = w5 at *
    refine bodyPost_ret (v := .agg #[.bool b7, .slice a7 n7 c7, .int .i64 RE]) (by simp [results, Tryz.results17, go_sem, p0, p1, p2]) rfl ?_
    exact ⟨⟨_, _, _, _, rfl, HE.out.1⟩, HE.out.2⟩
  · have HQE : Hid (ceq M ((2 ^ s : Nat) : Int) = zz b (rq b M.natAbs s 1)) := hide (by
      have := rq_ceil b M.natAbs s hodd hs0
      rw [← hMb] at this; exact this)
    generalize zz b (rq b M.natAbs s 1) = RM at *
    clear hMb
    clear h0 h1' hb0 h hM
    go_enter Tryz.func17, Tryz.ntmps17
    go_wp2_with fail
    refine HS.mono ?_
    rintro e t1 ⟨rfl, g1⟩
    have HC1 := hide (block_upW g1 H1.out)
    have HC0 := hide (block_upW g1 H0.out)
    have HG := hide (bl_trans8 HB.out g1)
    have hf1 := tri8f HC1.out
    obtain ⟨m0, m1, m2⟩ := tri8 HC1.out
    obtain ⟨l0, l1, l2⟩ := tri8 HC0.out
    have HL := HLN.out t1 HG.out
    clear g1 HS HLN H0 H1 HB
    go_wp2_with fail
    refine HL.mono ?_
    rintro e wn ⟨rfl, hw⟩; rw [hw]; clear hw wn HL
    have HI1 := rint_all 1 t1 (by omega)
    go_wp2_with fail
    refine HI1.mono ?_
    rintro e t2 ⟨⟨v2, rfl, N2⟩, g2⟩
    have HSL := rshl_any v2 1 s t2 N2 (by rw [show blen 1 = 1 by decide]; omega)
    rw [Nat.one_mul] at HSL
    have HG2 := hide (bl_trans8 HG.out g2)
    have HC2 := hide (block_upW g2 HC1.out)
    have HC3 := hide (block_upW g2 HC0.out)
    obtain ⟨av2, nv2, cv2, rfl⟩ := N2.sl
    clear HI1 g2 N2
    go_wp2_with fail
    refine HSL.mono ?_
    rintro e t3 ⟨⟨v3, rfl, N3⟩, g3⟩
    obtain ⟨a3, n3, c3, rfl⟩ := N3.sl
    obtain ⟨w4, hw4, hb4, h4, h5⟩ := enter2 t3 (.cells #[.bool false, .slice a3 n3 c3] 39) (.cells #[.bool false, .slice none 0 0] 39)
    have hfz := duof h5
    obtain ⟨z0, z1⟩ := duo h5
    obtain ⟨w4b, hw4b, hb4b, h4b, h5b⟩ : ∃ w4b, (w4.setCell ⟨t3.heap.size + 1, 0, none⟩ (.bool false)).setCell ⟨t3.heap.size + 1, 1, none⟩ (.slice none 0 0) = w4b ∧ Below t3.heap.size t3 w4b ∧ w4b.heap[t3.heap.size]? = some (.cells #[.bool false, .slice a3 n3 c3] 39) ∧ w4b.heap[t3.heap.size + 1]? = some (.cells #[.bool false, .slice none 0 0] 39) := ⟨_, rfl, below_duo hb4 (by omega), duo_other h4 (by omega), duo_all h5⟩
    have hsw : w4b.heap.size = t3.heap.size + 2 := by
      rw [← hw4b]
      have h9 : w4.heap.size = t3.heap.size + 2 := by rw [← hw4, World.size_alloc, World.size_alloc]
      simpa [World.setCell] using h9
    have HSW := hide hsw
    clear hsw
    have g4 := bl_trans8 g3 hb4b
    have HG4 := hide (bl_trans8 HG2.out g4)
    have HC4 := hide (block_upW g4 HC2.out)
    have HC5 := hide (block_upW g4 HC3.out)
    have hp2s := Nat.two_pow_pos s
    have hzs : Zn w4b (.agg #[.bool false, .slice a3 n3 c3]) ((2 ^ s : Nat) : Int) := ⟨.slice a3 n3 c3, by rw [(two_pow_int s).2], by rw [(two_pow_int s).1]; exact N3.below hb4b⟩
    have HZM := (HD.out.below HG4.out).zn
    have hbs : blen (((2 ^ s : Nat) : Int)).natAbs ≤ 1125899906810000 := by
      rw [(two_pow_int s).1]
      have h6 := blen_eq (2 ^ s) s (Nat.le_refl _) (by rw [Nat.pow_succ]; omega)
      omega
    have HQ := rzceil_any _ _ M ((2 ^ s : Nat) : Int) w4b HZM hzs (by omega) (by omega) hbs
    rw [HQE.out] at HQ
    obtain ⟨u0, u1⟩ := duo h4b
    obtain ⟨u2, u3⟩ := duo h5b
    have hf5 := duof h5b
    obtain ⟨l0, l1, l2⟩ := tri8 HC5.out
    have H5 := hide h5b
    clear HSL g3 g4 hb4 h4 h5 hb4b h4b h5b N3 HZM hzs hbs HC2 HC3 HC0 HC1 HG HG2 hp2s m0 m1 m2 hf1
    go_wp2_with fail
    refine HQ.mono ?_
    rintro e t5 ⟨⟨b5, a5, n5, c5, b6, a6, n6, c6, rfl, Z5, Z6⟩, g5⟩
    have HQ5 := block_upW g5 H5.out
    have hf6 := duof HQ5
    obtain ⟨x0, x1⟩ := duo HQ5
    have d5 := duo_all HQ5 (a' := .bool b5) (b' := .slice a5 n5 c5)
    have HG5 := bl_trans8 HG4.out g5
    have hsz : w.heap.size ≤ t3.heap.size + 1 := by
      have h7 := lt_of_block HC4.out
      have h8 := lt_of_block H5.out
      have h9 := HSW.out
      omega
    have hne : w.heap.size + 1 ≠ t3.heap.size + 1 := by
      intro h
      have h7 := HC4.out
      rw [h, H5.out] at h7
      simp at h7
    have G6 := below_duo HG5 (g := t3.heap.size + 1) (u0 := .bool b5) (u1 := .slice a5 n5 c5) hsz
    have c6' := duo_other (u0 := .bool b5) (u1 := .slice a5 n5 c5) (block_upW g5 HC4.out) hne
    have Z7 := Z5.duo (p1 := b5) (r1 := .slice a5 n5 c5) HQ5
    have HOF := rdOf_any b5 a5 n5 c5 RM pos _ Z7 HRB.out (by omega) (by omega)
    obtain ⟨y0, y1⟩ := duo d5
    have HC6 := hide c6'
    have HG6 := hide G6
    clear HQ HQ5 d5 G6 c6' Z5 Z6 Z7 HG5 g5 HG4 HC4 HC5 H5 hsz hne
    go_wp2_with fail
    generalize (t5.setCell ⟨t3.heap.size + 1, 0, none⟩ (.bool b5)).setCell ⟨t3.heap.size + 1, 1, none⟩ (.slice a5 n5 c5) = t6 at *
    refine HOF.mono ?_
    rintro e t7 ⟨⟨b7, a7, n7, c7, rfl, d7⟩, g7⟩
    have HC1 := hide (block_upW g7 HC6.out)
    have HG := hide (bl_trans8 HG6.out g7)
    have HDN := hide d7
    have hf1 := tri8f HC1.out
    obtain ⟨m0, m1, m2⟩ := tri8 HC1.out
    clear g7 d7 HOF HC6 HG6
    generalize oe RM pos = RE at *
    go_wp2
    have T3 := tri8_all HC1.out (.bool b7) (.slice a7 n7 c7) (.int .i64 RE)
    have T4 := below_tri8 HG.out (show w.heap.size ≤ w.heap.size + 1 by omega) (.bool b7) (.slice a7 n7 c7) (.int .i64 RE)
    have T5 := HDN.out.tri8 HC1.out b7 a7 n7 c7 (.int .i64 RE)
    obtain ⟨p0, p1, p2⟩ := tri8 T3
    have HE := hide (And.intro T5 T4)
    clear T3 T4 T5
    generalize ((t7.setCell ⟨w.heap.size + 1, 0, none⟩ (.bool b7)).setCell ⟨w.heap.size + 1, 1, none⟩ (.slice a7 n7 c7)).setCell ⟨w.heap.size + 1, 2, none⟩ (.int .i64 RE) = w5 at *
    refine bodyPost_ret (v := .agg #[.bool b7, .slice a7 n7 c7, .int .i64 RE]) (by simp [results, Tryz.results17, go_sem, p0, p1, p2]) rfl ?_
    exact ⟨⟨_, _, _, _, rfl, HE.out.1⟩, HE.out.2⟩
  · have HQE : Hid (neq M ((2 ^ s : Nat) : Int) = zz b (rq b M.natAbs s 2)) := hide (by
      have := rq_near b M.natAbs s hodd hs0
      rw [← hMb] at this; exact this)
    generalize zz b (rq b M.natAbs s 2) = RM at *
    clear hMb
    clear h0 h1' hb0 h hM
    go_enter Tryz.func17, Tryz.ntmps17
    go_wp2_with fail
    refine HS.mono ?_
    rintro e t1 ⟨rfl, g1⟩
    have HC1 := hide (block_upW g1 H1.out)
    have HC0 := hide (block_upW g1 H0.out)
    have HG := hide (bl_trans8 HB.out g1)
    have hf1 := tri8f HC1.out
    obtain ⟨m0, m1, m2⟩ := tri8 HC1.out
    obtain ⟨l0, l1, l2⟩ := tri8 HC0.out
    have HL := HLN.out t1 HG.out
    clear g1 HS HLN H0 H1 HB
    go_wp2_with fail
    refine HL.mono ?_
    rintro e wn ⟨rfl, hw⟩; rw [hw]; clear hw wn HL
    have HI1 := rint_all 1 t1 (by omega)
    go_wp2_with fail
    refine HI1.mono ?_
    rintro e t2 ⟨⟨v2, rfl, N2⟩, g2⟩
    have HSL := rshl_any v2 1 s t2 N2 (by rw [show blen 1 = 1 by decide]; omega)
    rw [Nat.one_mul] at HSL
    have HG2 := hide (bl_trans8 HG.out g2)
    have HC2 := hide (block_upW g2 HC1.out)
    have HC3 := hide (block_upW g2 HC0.out)
    obtain ⟨av2, nv2, cv2, rfl⟩ := N2.sl
    clear HI1 g2 N2
    go_wp2_with fail
    refine HSL.mono ?_
    rintro e t3 ⟨⟨v3, rfl, N3⟩, g3⟩
    obtain ⟨a3, n3, c3, rfl⟩ := N3.sl
    obtain ⟨w4, hw4, hb4, h4, h5⟩ := enter2 t3 (.cells #[.bool false, .slice a3 n3 c3] 39) (.cells #[.bool false, .slice none 0 0] 39)
    have hfz := duof h5
    obtain ⟨z0, z1⟩ := duo h5
    obtain ⟨w4b, hw4b, hb4b, h4b, h5b⟩ : ∃ w4b, (w4.setCell ⟨t3.heap.size + 1, 0, none⟩ (.bool false)).setCell ⟨t3.heap.size + 1, 1, none⟩ (.slice none 0 0) = w4b ∧ Below t3.heap.size t3 w4b ∧ w4b.heap[t3.heap.size]? = some (.cells #[.bool false, .slice a3 n3 c3] 39) ∧ w4b.heap[t3.heap.size + 1]? = some (.cells #[.bool false, .slice none 0 0] 39) := ⟨_, rfl, below_duo hb4 (by omega), duo_other h4 (by omega), duo_all h5⟩
    have hsw : w4b.heap.size = t3.heap.size + 2 := by
      rw [← hw4b]
      have h9 : w4.heap.size = t3.heap.size + 2 := by rw [← hw4, World.size_alloc, World.size_alloc]
      simpa [World.setCell] using h9
    have HSW := hide hsw
    clear hsw
    have g4 := bl_trans8 g3 hb4b
    have HG4 := hide (bl_trans8 HG2.out g4)
    have HC4 := hide (block_upW g4 HC2.out)
    have HC5 := hide (block_upW g4 HC3.out)
    have hp2s := Nat.two_pow_pos s
    have hzs : Zn w4b (.agg #[.bool false, .slice a3 n3 c3]) ((2 ^ s : Nat) : Int) := ⟨.slice a3 n3 c3, by rw [(two_pow_int s).2], by rw [(two_pow_int s).1]; exact N3.below hb4b⟩
    have HZM := (HD.out.below HG4.out).zn
    have hbs : blen (((2 ^ s : Nat) : Int)).natAbs ≤ 1125899906810000 := by
      rw [(two_pow_int s).1]
      have h6 := blen_eq (2 ^ s) s (Nat.le_refl _) (by rw [Nat.pow_succ]; omega)
      omega
    have HQ := rznear_any _ _ M ((2 ^ s : Nat) : Int) w4b HZM hzs (by omega) (by omega) hbs
    rw [HQE.out] at HQ
    obtain ⟨u0, u1⟩ := duo h4b
    obtain ⟨u2, u3⟩ := duo h5b
    have hf5 := duof h5b
    obtain ⟨l0, l1, l2⟩ := tri8 HC5.out
    have H5 := hide h5b
    clear HSL g3 g4 hb4 h4 h5 hb4b h4b h5b N3 HZM hzs hbs HC2 HC3 HC0 HC1 HG HG2 hp2s m0 m1 m2 hf1
    go_wp2_with fail
    refine HQ.mono ?_
    rintro e t5 ⟨⟨b5, a5, n5, c5, b6, a6, n6, c6, rfl, Z5, Z6⟩, g5⟩
    have HQ5 := block_upW g5 H5.out
    have hf6 := duof HQ5
    obtain ⟨x0, x1⟩ := duo HQ5
    have d5 := duo_all HQ5 (a' := .bool b5) (b' := .slice a5 n5 c5)
    have HG5 := bl_trans8 HG4.out g5
    have hsz : w.heap.size ≤ t3.heap.size + 1 := by
      have h7 := lt_of_block HC4.out
      have h8 := lt_of_block H5.out
      have h9 := HSW.out
      omega
    have hne : w.heap.size + 1 ≠ t3.heap.size + 1 := by
      intro h
      have h7 := HC4.out
      rw [h, H5.out] at h7
      simp at h7
    have G6 := below_duo HG5 (g := t3.heap.size + 1) (u0 := .bool b5) (u1 := .slice a5 n5 c5) hsz
    have c6' := duo_other (u0 := .bool b5) (u1 := .slice a5 n5 c5) (block_upW g5 HC4.out) hne
    have Z7 := Z5.duo (p1 := b5) (r1 := .slice a5 n5 c5) HQ5
    have HOF := rdOf_any b5 a5 n5 c5 RM pos _ Z7 HRB.out (by omega) (by omega)
    obtain ⟨y0, y1⟩ := duo d5
    have HC6 := hide c6'
    have HG6 := hide G6
    clear HQ HQ5 d5 G6 c6' Z5 Z6 Z7 HG5 g5 HG4 HC4 HC5 H5 hsz hne
    go_wp2_with fail
    generalize (t5.setCell ⟨t3.heap.size + 1, 0, none⟩ (.bool b5)).setCell ⟨t3.heap.size + 1, 1, none⟩ (.slice a5 n5 c5) = t6 at *
    refine HOF.mono ?_
    rintro e t7 ⟨⟨b7, a7, n7, c7, rfl, d7⟩, g7⟩
    have HC1 := hide (block_upW g7 HC6.out)
    have HG := hide (bl_trans8 HG6.out g7)
    have HDN := hide d7
    have hf1 := tri8f HC1.out
    obtain ⟨m0, m1, m2⟩ := tri8 HC1.out
    clear g7 d7 HOF HC6 HG6
    generalize oe RM pos = RE at *
    go_wp2
    have T3 := tri8_all HC1.out (.bool b7) (.slice a7 n7 c7) (.int .i64 RE)
    have T4 := below_tri8 HG.out (show w.heap.size ≤ w.heap.size + 1 by omega) (.bool b7) (.slice a7 n7 c7) (.int .i64 RE)
    have T5 := HDN.out.tri8 HC1.out b7 a7 n7 c7 (.int .i64 RE)
    obtain ⟨p0, p1, p2⟩ := tri8 T3
    have HE := hide (And.intro T5 T4)
    clear T3 T4 T5
    generalize ((t7.setCell ⟨w.heap.size + 1, 0, none⟩ (.bool b7)).setCell ⟨w.heap.size + 1, 1, none⟩ (.slice a7 n7 c7)).setCell ⟨w.heap.size + 1, 2, none⟩ (.int .i64 RE) = w5 at *
    refine bodyPost_ret (v := .agg #[.bool b7, .slice a7 n7 c7, .int .i64 RE]) (by simp [results, Tryz.results17, go_sem, p0, p1, p2]) rfl ?_
    exact ⟨⟨_, _, _, _, rfl, HE.out.1⟩, HE.out.2⟩

theorem rdRound_any (b : Bool) (a : Option Addr) (n c : Nat) (M E pos m : Int) (w : World) (h : Dn w b (.slice a n c) M) (hN : Norm8 M E) (hbl : blen M.natAbs ≤ 1125899906809900) (he1 : -1152921504606846976 ≤ E) (he2 : E ≤ 1152921504606846976) (hp1 : -1152921504606846976 ≤ pos) (hp2 : pos ≤ 1152921504606846976) (hm : m = 0 ∨ m = 1 ∨ m = 2) :
    Calls Tryz.prog 17 #[.agg #[.bool b, .slice a n c, .int .i64 E], .int .i64 pos, .int .i64 m] w (DnDone w (omz (rndM M E pos m)) (oe (rndM M E pos m) (rndE M E pos))) := by
  by_cases hs : M = 0 ∨ pos ≤ E
  · rw [show rndM M E pos m = M by unfold rndM; rw [if_pos hs], show rndE M E pos = E by unfold rndE; rw [if_pos hs], hN.stay.1, hN.stay.2]
    exact rdRound_same b a n c M E pos m w h hs
  · have hM : M ≠ 0 := fun h => hs (.inl h)
    rw [show rndM M E pos m = zz b (rq b M.natAbs (pos - E).toNat m) by unfold rndM; rw [if_neg hs, h.1], show rndE M E pos = pos by unfold rndE; rw [if_neg hs]]
    have hpe : E < pos := Int.lt_of_not_ge fun h => hs (.inr h)
    have hodd : M.natAbs % 2 = 1 := by
      rcases hN with hN | hN
      · exact absurd hN.1 hM
      · exact hN
    by_cases hfar : blen M.natAbs + 2 < (pos - E).toNat
    · exact rdRound_far b a n c M E pos m (pos - E).toNat w h hM (by omega) (by omega) hfar (by omega) hp1 hp2 hm
    · exact rdRound_near b a n c M E pos m (pos - E).toNat w h hM hodd (by omega) (by omega) (by omega) hbl hp1 hp2 hm

end Go.Proofs.YtolebfnkmjmfnaaGreatDoor
