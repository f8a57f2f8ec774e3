/- The walk of the law MulProducts. -/
import Derived.Test.YtmloigbacfllhaaDoorLMulSquaresZ
namespace Go.Proofs.YtmloigbacfllhaaDoor
open Go.RowKit
open Lm

set_option maxRecDepth 100000 in
set_option maxHeartbeats 1000000 in
theorem mulProducts_no (v0 : Value) (z0 : List Nat) (v1 : Value) (z1 : List Nat) (cut : Int) (w : World) (hT : Tab w) (A0 : Arg w v0 z0) (s0 : z0.length ≤ 17592186043904) (A1 : Arg w v1 z1) (s1 : z1.length ≤ 17592186043904) (hc : cut < 2) :
    Calls Tryd.prog 4 #[v0, v1, .int .i64 cut] w fun e w' => e = .returned (.bool true) ∧ Below w.heap.size w w' := by
  have HB : Hid (Below w.heap.size w w) := Below.refl _ _
  have bx := A0.bits s0
  have by' := A1.bits s1
  have HT := hide hT
  clear hT
  go_enter Tryd.func4, Tryd.ntmps4
  go_wp2_with fail
  refine (lend_ok _ _ _ A0 (by omega)).mono ?_
  rintro e wn ⟨⟨vw, vp, rfl, Lw, Ap⟩, hb⟩
  replace HB := hid_below HB hb; replace A0 := A0.below hb; replace A1 := A1.below hb; clear hb
  go_wp2_with fail
  refine (lend_ok _ _ _ A1 (by omega)).mono ?_
  rintro e wn ⟨⟨vv, vq, rfl, Lv, Aq⟩, hb⟩
  replace HB := hid_below HB hb; replace A0 := A0.below hb; replace A1 := A1.below hb; replace Lw := Lw.below hb; replace Ap := Ap.below hb; clear hb
  go_wp2_with fail
  refine (of_any _ _ _ A0 (by omega)).mono ?_
  rintro e wn ⟨⟨vx, rfl, Nx⟩, hb⟩
  replace HB := hid_below HB hb; replace A0 := A0.below hb; replace A1 := A1.below hb; replace Lw := Lw.below hb; replace Ap := Ap.below hb; replace Lv := Lv.below hb; replace Aq := Aq.below hb; clear hb
  go_wp2_with fail
  refine (of_any _ _ _ A1 (by omega)).mono ?_
  rintro e w2 ⟨⟨vy, rfl, Ny⟩, hb⟩
  replace HB := hid_below HB hb; replace A0 := A0.below hb; replace A1 := A1.below hb; replace Lw := Lw.below hb; replace Ap := Ap.below hb; replace Lv := Lv.below hb; replace Aq := Aq.below hb; replace Nx := Nx.below hb; clear hb
  go_wp2_with fail
  refine (rmul2_any _ _ _ _ _ Nx Ny bx by').mono ?_
  rintro e w3 ⟨hb, vn, f, rfl, hn⟩
  replace HB := hid_below HB hb; replace A0 := A0.below hb; replace A1 := A1.below hb; replace Lw := Lw.below hb; replace Ap := Ap.below hb; replace Lv := Lv.below hb; replace Aq := Aq.below hb; clear hb Nx Ny
  have H3 : Hid (Below w3.heap.size w3 w3) := Below.refl _ _
  have HT3 := hide (HT.out.below HB.out)
  have HM := mul_any vp vq z0 z1 w3 Ap Aq HT3.out (by omega)
  go_wp2_with fail
  refine HM.mono ?_
  rintro e w4 ⟨hb, v1, k1, r1, rfl, An1, hr1⟩
  have l1 := Res.few An1 hr1
  obtain ⟨o1, n1, c1, rfl⟩ := An1.slice
  have hsz := hb.size
  have Ch : Chain w4 w3.heap.size [.slice o1 n1 c1] [r1] := Chain.one An1 hsz
  replace H3 := hid_below H3 hb; clear hb HM
  have HM := mschool_any vp vq z0 z1 w4 (Ap.below H3.out) (Aq.below H3.out) (HT3.out.below H3.out) (by omega)
  go_wp2_with fail
  refine HM.mono ?_
  rintro e w5 ⟨hb, v2, k2, r2, rfl, An2, hr2⟩
  have l2 := Res.few An2 hr2
  obtain ⟨o2, n2, c2, rfl⟩ := An2.slice
  replace Ch : Chain w5 w3.heap.size [.slice o1 n1 c1, .slice o2 n2 c2] [r1, r2] := Ch.snoc hb An2 hsz
  replace An1 := An1.below hb
  replace H3 := hid_below H3 hb; clear hb HM
  have HM := karatsuba_no vp vq cut w5 hc
  go_wp2_with fail
  refine HM.mono ?_
  rintro e w6 ⟨rfl, hw⟩; subst hw
  clear HM
  have HAL := alike_ok _ vn k1 f r1 _ _ w6 An1 l1 hr1 (resN_below hn H3.out)
  go_wp2_with fail
  refine HAL.mono ?_
  rintro e w7 ⟨rfl, hb⟩
  replace H3 := hid_below H3 hb; replace Ch := Ch.below hb; replace An2 := An2.below hb; (try replace An3 := An3.below hb); clear hb HAL An1 hr1
  have HAL := alike_ok _ vn k2 f r2 _ _ w7 An2 l2 hr2 (resN_below hn H3.out)
  go_wp2_with fail
  refine HAL.mono ?_
  rintro e w8 ⟨rfl, hb⟩
  replace H3 := hid_below H3 hb; replace Ch := Ch.below hb; (try replace An3 := An3.below hb); clear hb HAL An2 hr2
  go_wp2_with fail
  refine (kept_ok _ _ _ _ (Lw.below H3.out) (A0.below H3.out) (by omega)).mono ?_
  rintro e wn ⟨rfl, hw⟩; subst hw
  go_wp2_with fail
  refine (kept_ok _ _ _ _ (Lv.below H3.out) (A1.below H3.out) (by omega)).mono ?_
  rintro e wn ⟨rfl, hw⟩; subst hw
  have HA := awake_any wn (HT3.out.below H3.out)
  go_wp2_with fail
  refine HA.mono ?_
  rintro e w9 ⟨rfl, hb⟩
  replace H3 := hid_below H3 hb; replace Ch := Ch.below hb; (try replace An3 := An3.below hb); clear hb HA A0 A1 Lw Lv Ap Aq
  go_wp2_with fail
  refine (num_any 1 _).mono ?_
  rintro e wn ⟨rfl, hw⟩; subst hw
  clear Ch hn
  go_wp2
  go_ret
  exact ⟨rfl, HB.out.trans (H3.out.mono HB.out.size)⟩

set_option maxRecDepth 100000 in
set_option maxHeartbeats 1000000 in
theorem mulProducts_yes (v0 : Value) (z0 : List Nat) (v1 : Value) (z1 : List Nat) (cut : Int) (w : World) (hT : Tab w) (A0 : Arg w v0 z0) (s0 : z0.length ≤ 17592186043904) (A1 : Arg w v1 z1) (s1 : z1.length ≤ 17592186043904) (hc : 2 ≤ cut) :
    Calls Tryd.prog 4 #[v0, v1, .int .i64 cut] w fun e w' => e = .returned (.bool true) ∧ Below w.heap.size w w' := by
  have hcd : decide (cut < 2) = false := decide_eq_false (by omega)
  have HB : Hid (Below w.heap.size w w) := Below.refl _ _
  have bx := A0.bits s0
  have by' := A1.bits s1
  have HT := hide hT
  clear hT
  go_enter Tryd.func4, Tryd.ntmps4
  go_wp2_with fail
  refine (lend_ok _ _ _ A0 (by omega)).mono ?_
  rintro e wn ⟨⟨vw, vp, rfl, Lw, Ap⟩, hb⟩
  replace HB := hid_below HB hb; replace A0 := A0.below hb; replace A1 := A1.below hb; clear hb
  go_wp2_with fail
  refine (lend_ok _ _ _ A1 (by omega)).mono ?_
  rintro e wn ⟨⟨vv, vq, rfl, Lv, Aq⟩, hb⟩
  replace HB := hid_below HB hb; replace A0 := A0.below hb; replace A1 := A1.below hb; replace Lw := Lw.below hb; replace Ap := Ap.below hb; clear hb
  go_wp2_with fail
  refine (of_any _ _ _ A0 (by omega)).mono ?_
  rintro e wn ⟨⟨vx, rfl, Nx⟩, hb⟩
  replace HB := hid_below HB hb; replace A0 := A0.below hb; replace A1 := A1.below hb; replace Lw := Lw.below hb; replace Ap := Ap.below hb; replace Lv := Lv.below hb; replace Aq := Aq.below hb; clear hb
  go_wp2_with fail
  refine (of_any _ _ _ A1 (by omega)).mono ?_
  rintro e w2 ⟨⟨vy, rfl, Ny⟩, hb⟩
  replace HB := hid_below HB hb; replace A0 := A0.below hb; replace A1 := A1.below hb; replace Lw := Lw.below hb; replace Ap := Ap.below hb; replace Lv := Lv.below hb; replace Aq := Aq.below hb; replace Nx := Nx.below hb; clear hb
  go_wp2_with fail
  refine (rmul2_any _ _ _ _ _ Nx Ny bx by').mono ?_
  rintro e w3 ⟨hb, vn, f, rfl, hn⟩
  replace HB := hid_below HB hb; replace A0 := A0.below hb; replace A1 := A1.below hb; replace Lw := Lw.below hb; replace Ap := Ap.below hb; replace Lv := Lv.below hb; replace Aq := Aq.below hb; clear hb Nx Ny
  have H3 : Hid (Below w3.heap.size w3 w3) := Below.refl _ _
  have HT3 := hide (HT.out.below HB.out)
  have HM := mul_any vp vq z0 z1 w3 Ap Aq HT3.out (by omega)
  go_wp2_with fail
  refine HM.mono ?_
  rintro e w4 ⟨hb, v1, k1, r1, rfl, An1, hr1⟩
  have l1 := Res.few An1 hr1
  obtain ⟨o1, n1, c1, rfl⟩ := An1.slice
  have hsz := hb.size
  have Ch : Chain w4 w3.heap.size [.slice o1 n1 c1] [r1] := Chain.one An1 hsz
  replace H3 := hid_below H3 hb; clear hb HM
  have HM := mschool_any vp vq z0 z1 w4 (Ap.below H3.out) (Aq.below H3.out) (HT3.out.below H3.out) (by omega)
  go_wp2_with fail
  refine HM.mono ?_
  rintro e w5 ⟨hb, v2, k2, r2, rfl, An2, hr2⟩
  have l2 := Res.few An2 hr2
  obtain ⟨o2, n2, c2, rfl⟩ := An2.slice
  replace Ch : Chain w5 w3.heap.size [.slice o1 n1 c1, .slice o2 n2 c2] [r1, r2] := Ch.snoc hb An2 hsz
  replace An1 := An1.below hb
  replace H3 := hid_below H3 hb; clear hb HM
  have HM := karatsuba_any vp vq z0 z1 cut w5 (Ap.below H3.out) (Aq.below H3.out) (HT3.out.below H3.out) (by omega) hc
  go_wp2_with fail
  refine HM.mono ?_
  rintro e w6 ⟨hb, v3, k3, r3, rfl, An3, hr3⟩
  have l3 := Res.few An3 hr3
  obtain ⟨o3, n3, c3, rfl⟩ := An3.slice
  replace Ch : Chain w6 w3.heap.size [.slice o1 n1 c1, .slice o2 n2 c2, .slice o3 n3 c3] [r1, r2, r3] := Ch.snoc hb An3 H3.out.size
  replace An1 := An1.below hb
  replace An2 := An2.below hb
  replace H3 := hid_below H3 hb; clear hb HM
  have HAL := alike_ok _ vn k1 f r1 _ _ w6 An1 l1 hr1 (resN_below hn H3.out)
  go_wp2_with fail
  refine HAL.mono ?_
  rintro e w7 ⟨rfl, hb⟩
  replace H3 := hid_below H3 hb; replace Ch := Ch.below hb; replace An2 := An2.below hb; (try replace An3 := An3.below hb); clear hb HAL An1 hr1
  have HAL := alike_ok _ vn k2 f r2 _ _ w7 An2 l2 hr2 (resN_below hn H3.out)
  go_wp2_with fail
  refine HAL.mono ?_
  rintro e w8 ⟨rfl, hb⟩
  replace H3 := hid_below H3 hb; replace Ch := Ch.below hb; (try replace An3 := An3.below hb); clear hb HAL An2 hr2
  go_wp2_with fail
  refine (kept_ok _ _ _ _ (Lw.below H3.out) (A0.below H3.out) (by omega)).mono ?_
  rintro e wn ⟨rfl, hw⟩; subst hw
  go_wp2_with fail
  refine (kept_ok _ _ _ _ (Lv.below H3.out) (A1.below H3.out) (by omega)).mono ?_
  rintro e wn ⟨rfl, hw⟩; subst hw
  have HA := awake_any wn (HT3.out.below H3.out)
  go_wp2_with fail
  refine HA.mono ?_
  rintro e w9 ⟨rfl, hb⟩
  replace H3 := hid_below H3 hb; replace Ch := Ch.below hb; (try replace An3 := An3.below hb); clear hb HA A0 A1 Lw Lv Ap Aq
  have HAL := alike_ok _ vn k3 f r3 _ _ w9 An3 l3 hr3 (resN_below hn H3.out)
  go_wp2_with fail
  refine HAL.mono ?_
  rintro e w10 ⟨rfl, hb⟩
  replace H3 := hid_below H3 hb; replace Ch := Ch.below hb; clear hb HAL An3 hr3 hn
  go_wp2_with fail
  refine (own_chain w3.heap.size [.slice o1 n1 c1, .slice o2 n2 c2, .slice o3 n3 c3] [r1, r2, r3] _ Ch (by simp) (by simp; omega) H3.out.size).mono ?_
  rintro e w12 ⟨rfl, hb⟩
  replace H3 : Hid (Below w3.heap.size w3 w12) := H3.out.trans hb
  clear hb Ch
  go_wp2
  go_ret
  exact ⟨rfl, HB.out.trans (H3.out.mono HB.out.size)⟩

theorem mulProducts_walk (v0 : Value) (z0 : List Nat) (v1 : Value) (z1 : List Nat) (cut : Int) (w : World) (hT : Tab w) (A0 : Arg w v0 z0) (s0 : z0.length ≤ 17592186043904) (A1 : Arg w v1 z1) (s1 : z1.length ≤ 17592186043904) (_h1 : -9223372036854775808 ≤ cut) (_h2 : cut ≤ 9223372036854775807) :
    Calls Tryd.prog 4 #[v0, v1, .int .i64 cut] w fun e w' => e = .returned (.bool true) ∧ Below w.heap.size w w' := by
  by_cases hc : cut < 2
  · exact mulProducts_no v0 z0 v1 z1 cut w hT A0 s0 A1 s1 hc
  · exact mulProducts_yes v0 z0 v1 z1 cut w hT A0 s0 A1 s1 (by omega)

end Go.Proofs.YtmloigbacfllhaaDoor
