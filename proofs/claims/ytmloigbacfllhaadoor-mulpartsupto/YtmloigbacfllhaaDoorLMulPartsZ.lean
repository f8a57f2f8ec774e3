/- The walk of the law MulParts, of lists that aren't long. -/
import Derived.Test.YtmloigbacfllhaaDoorRefNZ
import Derived.Test.YtmloigbacfllhaaDoorPrtZ
import Derived.Test.YtmloigbacfllhaaDoorLMulSplitsZ
import Derived.Test.YtmloigbacfllhaaDoorQH
namespace Go.Proofs.YtmloigbacfllhaaDoor
open Go.RowKit
open Lm

set_option maxRecDepth 100000 in
set_option maxHeartbeats 1000000 in
theorem mulParts_no (v0 : Value) (z0 : List Nat) (v1 : Value) (z1 : List Nat) (k : Int) (w : World) (hT : Tab w) (A0 : Arg w v0 z0) (s0 : z0.length ≤ 1048576) (A1 : Arg w v1 z1) (s1 : z1.length ≤ 1048576) (hk : k < 0) :
    Calls Tryd.prog 7 #[v0, v1, .int .i64 k] w fun e w' => e = .returned (.bool true) ∧ Below w.heap.size w w' := by
  have HB : Hid (Below w.heap.size w w) := Below.refl _ _
  have HT := hide hT
  have bx : blen (val z0) ≤ 1073741824 := by have := blen_val_le z0 A0.limbs; omega
  have by' : blen (val z1) ≤ 1073741824 := by have := blen_val_le z1 A1.limbs; omega
  have HX := hide (And.intro (take_mod z0 A0.limbs k.toNat) (take_mod z1 A1.limbs k.toNat))
  clear hT
  go_enter Tryd.func7, Tryd.ntmps7
  go_wp2_with fail
  refine (lend_ok _ _ _ A0 (by omega)).mono ?_
  rintro e wn ⟨⟨vw, vp, rfl, Lw, Ap⟩, hb⟩
  replace HB := hid_below HB hb; replace A0 := A0.below hb; replace A1 := A1.below hb; clear hb
  go_wp2_with fail
  refine (lend_ok _ _ _ A1 (by omega)).mono ?_
  rintro e wn ⟨⟨vv, vq, rfl, Lv, Aq⟩, hb⟩
  replace HB := hid_below HB hb; replace A0 := A0.below hb; replace A1 := A1.below hb; replace Lw := Lw.below hb; replace Ap := Ap.below hb; clear hb
  go_wp2_with fail
  refine (of_any _ _ _ A0 (by omega)).mono ?_
  rintro e wn ⟨⟨vx, rfl, Nx⟩, hb⟩
  replace HB := hid_below HB hb; replace A0 := A0.below hb; replace A1 := A1.below hb; replace Lw := Lw.below hb; replace Ap := Ap.below hb; replace Lv := Lv.below hb; replace Aq := Aq.below hb; clear hb
  go_wp2_with fail
  refine (of_any _ _ _ A1 (by omega)).mono ?_
  rintro e w2 ⟨⟨vy, rfl, Ny⟩, hb⟩
  replace HB := hid_below HB hb; replace A0 := A0.below hb; replace A1 := A1.below hb; replace Lw := Lw.below hb; replace Ap := Ap.below hb; replace Lv := Lv.below hb; replace Aq := Aq.below hb; replace Nx := Nx.below hb; clear hb
  go_wp2_with fail
  refine (rparts_no vx vy k w2 hk).mono ?_
  rintro e w3 ⟨rfl, hw⟩; subst hw
  clear Nx Ny HX
  go_wp2_with fail
  refine (parts_no vp vq k w3 hk).mono ?_
  rintro e w4 ⟨rfl, hw⟩; subst hw
  have H3 : Hid (Below w4.heap.size w4 w4) := Below.refl _ _
  have Ch := chain_nil3 w4 w4.heap.size (Nat.le_refl _)
  obtain ⟨r1, l1⟩ : ∃ r : List Nat, r = [] := ⟨_, rfl⟩
  obtain ⟨r2, l2⟩ : ∃ r : List Nat, r = [] := ⟨_, rfl⟩
  obtain ⟨r3, l3⟩ : ∃ r : List Nat, r = [] := ⟨_, rfl⟩
  have Ch : Chain w4 w4.heap.size [.slice none 0 0, .slice none 0 0, .slice none 0 0] [r1, r2, r3] := by rw [l1, l2, l3]; exact Ch
  have l1' : r1.length ≤ 0 := by rw [l1]; simp
  have l2' : r2.length ≤ 0 := by rw [l2]; simp
  have l3' : r3.length ≤ 0 := by rw [l3]; simp
  clear l1 l2 l3
  go_wp2_with fail
  refine (alike_err none 0 _ 1 _ (by omega)).mono ?_
  rintro e wn ⟨rfl, hw⟩; subst hw
  go_wp2_with fail
  refine (alike_err none 0 _ 1 _ (by omega)).mono ?_
  rintro e wn ⟨rfl, hw⟩; subst hw
  go_wp2_with fail
  refine (alike_err none 0 _ 1 _ (by omega)).mono ?_
  rintro e wn ⟨rfl, hw⟩; subst hw
  go_wp2_with fail
  refine (own_chain wn.heap.size [_, _, _] [r1, r2, r3] _ Ch (by simp) (by simp; omega) H3.out.size).mono ?_
  rintro e w12 ⟨rfl, hb⟩
  replace H3 : Hid (Below wn.heap.size wn w12) := H3.out.trans hb
  clear hb Ch
  go_wp2_with fail
  refine (kept_ok _ _ _ _ (Lw.below H3.out) (A0.below H3.out) (by omega)).mono ?_
  rintro e wn ⟨rfl, hw⟩; subst hw
  go_wp2_with fail
  refine (kept_ok _ _ _ _ (Lv.below H3.out) (A1.below H3.out) (by omega)).mono ?_
  rintro e wn ⟨rfl, hw⟩; subst hw
  have HA := awake_any _ (HT.out.below (HB.out.trans (H3.out.mono HB.out.size)))
  clear A0 A1 Lw Lv Ap Aq
  go_wp2_with fail
  refine HA.mono ?_
  rintro e w19 ⟨rfl, hb⟩
  replace H3 := hid_below H3 hb; clear hb HA
  go_wp2
  go_ret
  exact ⟨rfl, HB.out.trans (H3.out.mono HB.out.size)⟩

set_option maxRecDepth 100000 in
set_option maxHeartbeats 1000000 in
theorem mulParts_yes (v0 : Value) (z0 : List Nat) (v1 : Value) (z1 : List Nat) (k : Int) (w : World) (hT : Tab w) (A0 : Arg w v0 z0) (s0 : z0.length ≤ 1048576) (A1 : Arg w v1 z1) (s1 : z1.length ≤ 1048576) (hk : 0 ≤ k) :
    Calls Tryd.prog 7 #[v0, v1, .int .i64 k] w fun e w' => e = .returned (.bool true) ∧ Below w.heap.size w w' := by
  have HB : Hid (Below w.heap.size w w) := Below.refl _ _
  have HT := hide hT
  have bx : blen (val z0) ≤ 1073741824 := by have := blen_val_le z0 A0.limbs; omega
  have by' : blen (val z1) ≤ 1073741824 := by have := blen_val_le z1 A1.limbs; omega
  have HX := hide (And.intro (take_mod z0 A0.limbs k.toNat) (take_mod z1 A1.limbs k.toNat))
  clear hT
  go_enter Tryd.func7, Tryd.ntmps7
  go_wp2_with fail
  refine (lend_ok _ _ _ A0 (by omega)).mono ?_
  rintro e wn ⟨⟨vw, vp, rfl, Lw, Ap⟩, hb⟩
  replace HB := hid_below HB hb; replace A0 := A0.below hb; replace A1 := A1.below hb; clear hb
  go_wp2_with fail
  refine (lend_ok _ _ _ A1 (by omega)).mono ?_
  rintro e wn ⟨⟨vv, vq, rfl, Lv, Aq⟩, hb⟩
  replace HB := hid_below HB hb; replace A0 := A0.below hb; replace A1 := A1.below hb; replace Lw := Lw.below hb; replace Ap := Ap.below hb; clear hb
  go_wp2_with fail
  refine (of_any _ _ _ A0 (by omega)).mono ?_
  rintro e wn ⟨⟨vx, rfl, Nx⟩, hb⟩
  replace HB := hid_below HB hb; replace A0 := A0.below hb; replace A1 := A1.below hb; replace Lw := Lw.below hb; replace Ap := Ap.below hb; replace Lv := Lv.below hb; replace Aq := Aq.below hb; clear hb
  go_wp2_with fail
  refine (of_any _ _ _ A1 (by omega)).mono ?_
  rintro e w2 ⟨⟨vy, rfl, Ny⟩, hb⟩
  replace HB := hid_below HB hb; replace A0 := A0.below hb; replace A1 := A1.below hb; replace Lw := Lw.below hb; replace Ap := Ap.below hb; replace Lv := Lv.below hb; replace Aq := Aq.below hb; replace Nx := Nx.below hb; clear hb
  go_wp2_with fail
  refine (rparts_any vx vy _ _ k w2 Nx Ny hk bx by').mono ?_
  rintro e w3 ⟨hb, n1, n2, n3, f, rfl, hn⟩
  replace HB := hid_below HB hb; replace A0 := A0.below hb; replace A1 := A1.below hb; replace Lw := Lw.below hb; replace Ap := Ap.below hb; replace Lv := Lv.below hb; replace Aq := Aq.below hb; clear hb Nx Ny
  have H3 : Hid (Below w3.heap.size w3 w3) := Below.refl _ _
  have HS := parts_any vp vq z0 z1 k w3 Ap Aq (HT.out.below HB.out) hk (by omega) (by omega)
  rw [HX.out.1.1, HX.out.1.2, HX.out.2.1, HX.out.2.2] at HS
  clear HX
  generalize val z0 % 18446744073709551616 ^ k.toNat = x0 at *
  generalize val z0 / 18446744073709551616 ^ k.toNat = x1 at *
  generalize val z1 % 18446744073709551616 ^ k.toNat = y0 at *
  generalize val z1 / 18446744073709551616 ^ k.toNat = y1 at *
  generalize x0 * y0 = s at *
  generalize x0 * y1 + x1 * y0 = t at *
  generalize x1 * y1 = u at *
  go_wp2_with fail
  refine HS.mono ?_
  rintro e w4 ⟨hb, p1, p2, p3, c, r1, r2, r3, rfl, Ch, hr⟩
  replace H3 := hid_below H3 hb
  have An1 : Ans w4 w3.heap.size p1 r1 := Ch.row 0 (by simp)
  have An2 : Ans w4 w3.heap.size p2 r2 := Ch.row 1 (by simp)
  have An3 : Ans w4 w3.heap.size p3 r3 := Ch.row 2 (by simp)
  obtain ⟨o1, m1, q1, rfl⟩ := An1.slice
  obtain ⟨o2, m2, q2, rfl⟩ := An2.slice
  obtain ⟨o3, m3, q3, rfl⟩ := An3.slice
  rcases hr with ⟨rfl, ⟨e1, t1⟩, ⟨e2, t2⟩, ⟨e3, t3⟩, b1, b2, b3⟩ | ⟨rfl, e1, e2, e3, hbad⟩
  · have l1 := few_limbs r1 1048576 (by rw [e1]; omega)
    have l2 := few_limbs r2 1048576 (by rw [e2]; omega)
    have l3 := few_limbs r3 1048576 (by rw [e3]; omega)
    rw [t1] at l1
    rw [t2] at l2
    rw [t3] at l3
    rcases hn with ⟨rfl, N1, N2, N3, _⟩ | ⟨_, h⟩
    · replace N1 := N1.below hb
      replace N2 := N2.below hb
      replace N3 := N3.below hb
      clear hb HS
      have HAL := alike_val _ n1 r1 s w4 (An1.arg (by omega)) N1 e1 t1 (by omega)
      clear e1 t1 N1 An1
      go_wp2_with fail
      refine HAL.mono ?_
      rintro e w5 ⟨rfl, hb⟩
      replace H3 := hid_below H3 hb; replace Ch := Ch.below hb; replace An2 := An2.below hb; replace An3 := An3.below hb; replace N2 := N2.below hb; replace N3 := N3.below hb; clear hb HAL
      have HAL := alike_val _ n2 r2 t w5 (An2.arg (by omega)) N2 e2 t2 (by omega)
      clear e2 t2 N2 An2
      go_wp2_with fail
      refine HAL.mono ?_
      rintro e w6 ⟨rfl, hb⟩
      replace H3 := hid_below H3 hb; replace Ch := Ch.below hb; replace An3 := An3.below hb; replace N3 := N3.below hb; clear hb HAL
      have HAL := alike_val _ n3 r3 u w6 (An3.arg (by omega)) N3 e3 t3 (by omega)
      clear e3 t3 N3 An3
      go_wp2_with fail
      refine HAL.mono ?_
      rintro e w7 ⟨rfl, hb⟩
      replace H3 := hid_below H3 hb; replace Ch := Ch.below hb; clear hb HAL
      go_wp2_with fail
      refine (own_chain w3.heap.size [_, _, _] [r1, r2, r3] _ Ch (by simp) (by simp; omega) H3.out.size).mono ?_
      rintro e w12 ⟨rfl, hb⟩
      replace H3 : Hid (Below w3.heap.size w3 w12) := H3.out.trans hb
      clear hb Ch
      go_wp2_with fail
      refine (kept_ok _ _ _ _ (Lw.below H3.out) (A0.below H3.out) (by omega)).mono ?_
      rintro e wn ⟨rfl, hw⟩; subst hw
      go_wp2_with fail
      refine (kept_ok _ _ _ _ (Lv.below H3.out) (A1.below H3.out) (by omega)).mono ?_
      rintro e wn ⟨rfl, hw⟩; subst hw
      have HA := awake_any _ (HT.out.below (HB.out.trans (H3.out.mono HB.out.size)))
      clear A0 A1 Lw Lv Ap Aq
      go_wp2_with fail
      refine HA.mono ?_
      rintro e w19 ⟨rfl, hb⟩
      replace H3 := hid_below H3 hb; clear hb HA
      go_wp2
      go_ret
      exact ⟨rfl, HB.out.trans (H3.out.mono HB.out.size)⟩
    · omega
  · rcases hn with ⟨_, _, _, _, h⟩ | ⟨rfl, _⟩
    · omega
    · subst e1
      subst e2
      subst e3
      clear hb HS hbad
      have z1' : m1 = 0 := by obtain ⟨_, _, h, _⟩ := (An1.arg (by simp)).form; cases h; rfl
      have z2' : m2 = 0 := by obtain ⟨_, _, h, _⟩ := (An2.arg (by simp)).form; cases h; rfl
      have z3' : m3 = 0 := by obtain ⟨_, _, h, _⟩ := (An3.arg (by simp)).form; cases h; rfl
      subst z1'
      subst z2'
      subst z3'
      obtain ⟨r1, h1⟩ : ∃ r : List Nat, r = [] := ⟨_, rfl⟩
      obtain ⟨r2, h2⟩ : ∃ r : List Nat, r = [] := ⟨_, rfl⟩
      obtain ⟨r3, h3⟩ : ∃ r : List Nat, r = [] := ⟨_, rfl⟩
      have l1 : r1.length ≤ 0 := by rw [h1]; simp
      have l2 : r2.length ≤ 0 := by rw [h2]; simp
      have l3 : r3.length ≤ 0 := by rw [h3]; simp
      replace Ch : Chain w4 w3.heap.size [.slice o1 0 q1, .slice o2 0 q2, .slice o3 0 q3] [r1, r2, r3] := by rw [h1, h2, h3]; exact Ch
      clear h1 h2 h3 An1 An2 An3
      go_wp2_with fail
      refine (alike_err o1 q1 _ 3 _ (by omega)).mono ?_
      rintro e wn ⟨rfl, hw⟩; subst hw
      go_wp2_with fail
      refine (alike_err o2 q2 _ 3 _ (by omega)).mono ?_
      rintro e wn ⟨rfl, hw⟩; subst hw
      go_wp2_with fail
      refine (alike_err o3 q3 _ 3 _ (by omega)).mono ?_
      rintro e wn ⟨rfl, hw⟩; subst hw
      go_wp2_with fail
      refine (own_chain w3.heap.size [_, _, _] [r1, r2, r3] _ Ch (by simp) (by simp; omega) H3.out.size).mono ?_
      rintro e w12 ⟨rfl, hb⟩
      replace H3 : Hid (Below w3.heap.size w3 w12) := H3.out.trans hb
      clear hb Ch
      go_wp2_with fail
      refine (kept_ok _ _ _ _ (Lw.below H3.out) (A0.below H3.out) (by omega)).mono ?_
      rintro e wn ⟨rfl, hw⟩; subst hw
      go_wp2_with fail
      refine (kept_ok _ _ _ _ (Lv.below H3.out) (A1.below H3.out) (by omega)).mono ?_
      rintro e wn ⟨rfl, hw⟩; subst hw
      have HA := awake_any _ (HT.out.below (HB.out.trans (H3.out.mono HB.out.size)))
      clear A0 A1 Lw Lv Ap Aq
      go_wp2_with fail
      refine HA.mono ?_
      rintro e w19 ⟨rfl, hb⟩
      replace H3 := hid_below H3 hb; clear hb HA
      go_wp2
      go_ret
      exact ⟨rfl, HB.out.trans (H3.out.mono HB.out.size)⟩

theorem mulParts_walk (v0 : Value) (z0 : List Nat) (v1 : Value) (z1 : List Nat) (k : Int) (w : World) (hT : Tab w) (A0 : Arg w v0 z0) (s0 : z0.length ≤ 1048576) (A1 : Arg w v1 z1) (s1 : z1.length ≤ 1048576) (_h1 : -9223372036854775808 ≤ k) (_h2 : k ≤ 9223372036854775807) :
    Calls Tryd.prog 7 #[v0, v1, .int .i64 k] w fun e w' => e = .returned (.bool true) ∧ Below w.heap.size w w' := by
  by_cases hk : k < 0
  · exact mulParts_no v0 z0 v1 z1 k w hT A0 s0 A1 s1 hk
  · exact mulParts_yes v0 z0 v1 z1 k w hT A0 s0 A1 s1 (by omega)

end Go.Proofs.YtmloigbacfllhaaDoor
