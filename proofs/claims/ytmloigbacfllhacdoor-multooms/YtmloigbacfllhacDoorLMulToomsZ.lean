/- The walk of the law MulTooms. -/
import Derived.Test.YtmloigbacfllhacDoorRefKZ
import Derived.Test.YtmloigbacfllhacDoorQF
import Derived.Test.YtmloigbacfllhacDoorQH
namespace Go.Proofs.YtmloigbacfllhacDoor
open Go.RowKit
open Lm

theorem resN_below {w w' : World} {v : Value} {f : Int} {s : Nat} (h : (f = 0 ∧ Num w v s ∧ blen s ≤ 67108864) ∨ (f = 3 ∧ v = .slice none 0 0 ∧ 67108864 < blen s)) (hb : Below w.heap.size w w') : (f = 0 ∧ Num w' v s ∧ blen s ≤ 67108864) ∨ (f = 3 ∧ v = .slice none 0 0 ∧ 67108864 < blen s) := by
  rcases h with ⟨h1, h2, h3⟩ | h
  · exact .inl ⟨h1, h2.below hb, h3⟩
  · exact .inr h

set_option maxRecDepth 100000 in
set_option maxHeartbeats 1000000 in
theorem mulTooms_no (v0 : Value) (z0 : List Nat) (v1 : Value) (z1 : List Nat) (cut : Int) (w : World) (hT : Tab w) (A0 : Arg w v0 z0) (s0 : z0.length ≤ 17592186043904) (A1 : Arg w v1 z1) (s1 : z1.length ≤ 17592186043904) (hc : cut < 3) :
    Calls Tryd.prog 4 #[v0, v1, .int .i64 cut] w fun e w' => e = .returned (.bool true) ∧ Below w.heap.size w w' := by
  have HB : Hid (Below w.heap.size w w) := Below.refl _ _
  have HT := hide hT
  clear hT
  go_enter Tryd.func4, Tryd.ntmps4
  go_wp2_with fail
  refine (lend_ok _ _ _ A0 (by omega)).mono ?_
  rintro e wn ⟨⟨vw, vp, rfl, Lw, Ap⟩, hb⟩
  replace HB := hid_below HB hb; replace A0 := A0.below hb; replace A1 := A1.below hb; clear hb
  go_wp2_with fail
  refine (lend_ok _ _ _ A1 (by omega)).mono ?_
  rintro e w3 ⟨⟨vv, vq, rfl, Lv, Aq⟩, hb⟩
  replace HB := hid_below HB hb; replace A0 := A0.below hb; replace A1 := A1.below hb; replace Lw := Lw.below hb; replace Ap := Ap.below hb; clear hb
  have H3 : Hid (Below w3.heap.size w3 w3) := Below.refl _ _
  have HT3 := hide (HT.out.below HB.out)
  have HM := toom_no vp vq cut w3 hc
  go_wp2_with fail
  refine HM.mono ?_
  rintro e w6 ⟨rfl, hw⟩; subst hw
  clear HM
  go_wp2_with fail
  refine (num_any 1 _).mono ?_
  rintro e wn ⟨rfl, hw⟩; subst hw
  have HA := awake_any _ (HT3.out.below H3.out)
  clear A0 A1 Lw Lv Ap Aq
  go_wp2_with fail
  refine HA.mono ?_
  rintro e w9 ⟨rfl, hb⟩
  replace H3 := hid_below H3 hb; clear hb HA
  go_wp2
  go_ret
  exact ⟨rfl, HB.out.trans (H3.out.mono HB.out.size)⟩

set_option maxRecDepth 100000 in
set_option maxHeartbeats 1000000 in
theorem mulTooms_yes (v0 : Value) (z0 : List Nat) (v1 : Value) (z1 : List Nat) (cut : Int) (w : World) (hT : Tab w) (A0 : Arg w v0 z0) (s0 : z0.length ≤ 17592186043904) (A1 : Arg w v1 z1) (s1 : z1.length ≤ 17592186043904) (hc : 3 ≤ cut) :
    Calls Tryd.prog 4 #[v0, v1, .int .i64 cut] w fun e w' => e = .returned (.bool true) ∧ Below w.heap.size w w' := by
  have hcd : decide (cut < 3) = false := decide_eq_false (by omega)
  have bx := A0.bits s0
  have by' := A1.bits s1
  have HB : Hid (Below w.heap.size w w) := Below.refl _ _
  have HT := hide hT
  clear hT
  go_enter Tryd.func4, Tryd.ntmps4
  go_wp2_with fail
  refine (lend_ok _ _ _ A0 (by omega)).mono ?_
  rintro e wn ⟨⟨vw, vp, rfl, Lw, Ap⟩, hb⟩
  replace HB := hid_below HB hb; replace A0 := A0.below hb; replace A1 := A1.below hb; clear hb
  go_wp2_with fail
  refine (lend_ok _ _ _ A1 (by omega)).mono ?_
  rintro e w3 ⟨⟨vv, vq, rfl, Lv, Aq⟩, hb⟩
  replace HB := hid_below HB hb; replace A0 := A0.below hb; replace A1 := A1.below hb; replace Lw := Lw.below hb; replace Ap := Ap.below hb; clear hb
  have H3 : Hid (Below w3.heap.size w3 w3) := Below.refl _ _
  have HT3 := hide (HT.out.below HB.out)
  have HM := toom_any vp vq z0 z1 cut w3 Ap Aq HT3.out (by omega) hc
  go_wp2_with fail
  refine HM.mono ?_
  rintro e w4 ⟨hb, v3, k3, r3, rfl, An3, hr3⟩
  have l3 := Res.few An3 hr3
  obtain ⟨o3, n3, c3, rfl⟩ := An3.slice
  have Ch : Chain w4 w3.heap.size [.slice o3 n3 c3] [r3] := Chain.one An3 hb.size
  replace H3 := hid_below H3 hb; clear hb HM
  go_wp2_with fail
  refine (of_any _ _ _ (A0.below H3.out) (by omega)).mono ?_
  rintro e w5 ⟨⟨vx, rfl, Nx⟩, hb⟩
  replace H3 := hid_below H3 hb; replace Ch := Ch.below hb; replace An3 := An3.below hb; clear hb
  go_wp2_with fail
  refine (of_any _ _ _ (A1.below H3.out) (by omega)).mono ?_
  rintro e w6 ⟨⟨vy, rfl, Ny⟩, hb⟩
  replace H3 := hid_below H3 hb; replace Ch := Ch.below hb; replace An3 := An3.below hb; replace Nx := Nx.below hb; clear hb
  go_wp2_with fail
  refine (rmul2_any _ _ _ _ _ Nx Ny bx by').mono ?_
  rintro e w7 ⟨hb, vn, f, rfl, hn⟩
  replace H3 := hid_below H3 hb; replace Ch := Ch.below hb; replace An3 := An3.below hb; clear hb Nx Ny
  have HAL := alike_ok _ vn k3 f r3 _ _ w7 An3 l3 hr3 hn
  go_wp2_with fail
  refine HAL.mono ?_
  rintro e w8 ⟨rfl, hb⟩
  replace H3 := hid_below H3 hb; replace Ch := Ch.below hb; clear hb HAL An3 hr3 hn
  go_wp2_with fail
  refine (kept_ok _ _ _ _ (Lw.below H3.out) (A0.below H3.out) (by omega)).mono ?_
  rintro e wn ⟨rfl, hw⟩; subst hw
  go_wp2_with fail
  refine (kept_ok _ _ _ _ (Lv.below H3.out) (A1.below H3.out) (by omega)).mono ?_
  rintro e wn ⟨rfl, hw⟩; subst hw
  go_wp2_with fail
  refine (own_chain w3.heap.size [.slice o3 n3 c3] [r3] _ Ch (by simp) (by simp; omega) H3.out.size).mono ?_
  rintro e w12 ⟨rfl, hb⟩
  replace H3 : Hid (Below w3.heap.size w3 w12) := H3.out.trans hb
  clear hb Ch
  go_wp2_with fail
  refine (kept_ok _ _ _ _ (Lw.below H3.out) (A0.below H3.out) (by omega)).mono ?_
  rintro e wn ⟨rfl, hw⟩; subst hw
  go_wp2_with fail
  refine (kept_ok _ _ _ _ (Lv.below H3.out) (A1.below H3.out) (by omega)).mono ?_
  rintro e wn ⟨rfl, hw⟩; subst hw
  have HA := awake_any _ (HT3.out.below H3.out)
  clear A0 A1 Lw Lv Ap Aq
  go_wp2_with fail
  refine HA.mono ?_
  rintro e w9 ⟨rfl, hb⟩
  replace H3 := hid_below H3 hb; clear hb HA
  go_wp2
  go_ret
  exact ⟨rfl, HB.out.trans (H3.out.mono HB.out.size)⟩

theorem mulTooms_walk (v0 : Value) (z0 : List Nat) (v1 : Value) (z1 : List Nat) (cut : Int) (w : World) (hT : Tab w) (A0 : Arg w v0 z0) (s0 : z0.length ≤ 17592186043904) (A1 : Arg w v1 z1) (s1 : z1.length ≤ 17592186043904) (_h1 : -9223372036854775808 ≤ cut) (_h2 : cut ≤ 9223372036854775807) :
    Calls Tryd.prog 4 #[v0, v1, .int .i64 cut] w fun e w' => e = .returned (.bool true) ∧ Below w.heap.size w w' := by
  by_cases hc : cut < 3
  · exact mulTooms_no v0 z0 v1 z1 cut w hT A0 s0 A1 s1 hc
  · exact mulTooms_yes v0 z0 v1 z1 cut w hT A0 s0 A1 s1 (by omega)

end Go.Proofs.YtmloigbacfllhacDoor
