/- The walk of the law MulHalves, of lists that aren't long. -/
import Derived.Test.YtmloigbacfllhabDoorRefOZ
import Derived.Test.YtmloigbacfllhabDoorLMulIdentityZ
import Derived.Test.YtmloigbacfllhabDoorQH
namespace Go.Proofs.YtmloigbacfllhabDoor
open Go.RowKit
open Lm

theorem resN_below {w w' : World} {v : Value} {f : Int} {s : Nat} (h : (f = 0 ∧ Num w v s ∧ blen s ≤ 67108864) ∨ (f = 3 ∧ v = .slice none 0 0 ∧ 67108864 < blen s)) (hb : Below w.heap.size w w') : (f = 0 ∧ Num w' v s ∧ blen s ≤ 67108864) ∨ (f = 3 ∧ v = .slice none 0 0 ∧ 67108864 < blen s) := by
  rcases h with ⟨h1, h2, h3⟩ | h
  · exact .inl ⟨h1, h2.below hb, h3⟩
  · exact .inr h

theorem chain_nil2 (w : World) (base : Nat) (h : base ≤ w.heap.size) : Chain w base [.slice none 0 0, .slice none 0 0] [[], []] :=
  ⟨base, ⟨Nat.le_refl _, h⟩, Ans.nil _ _, (fun g hg => by cases hg), base, ⟨Nat.le_refl _, h⟩, Ans.nil _ _, (fun g hg => by cases hg), trivial⟩

set_option maxRecDepth 100000 in
set_option maxHeartbeats 1000000 in
theorem mulHalves_no (v0 : Value) (z0 : List Nat) (v1 : Value) (z1 : List Nat) (k : Int) (w : World) (hT : Tab w) (A0 : Arg w v0 z0) (s0 : z0.length ≤ 1048576) (A1 : Arg w v1 z1) (s1 : z1.length ≤ 1048576) (hk : k < 0) :
    Calls Tryd.prog 3 #[v0, v1, .int .i64 k] w fun e w' => e = .returned (.bool true) ∧ Below w.heap.size w w' := by
  have HB : Hid (Below w.heap.size w w) := Below.refl _ _
  have HT := hide hT
  have bx : blen (val z0) ≤ 1073741824 := by have := blen_val_le z0 A0.limbs; omega
  have by' : blen (val z1) ≤ 1073741824 := by have := blen_val_le z1 A1.limbs; omega
  clear hT
  go_enter Tryd.func3, Tryd.ntmps3
  go_wp2_with fail
  refine (lend_ok _ _ _ A0 (by omega)).mono ?_
  rintro e wn ⟨⟨vw, vp, rfl, Lw, Ap⟩, hb⟩
  replace HB := hid_below HB hb; replace A0 := A0.below hb; replace A1 := A1.below hb; clear hb
  go_wp2_with fail
  refine (lend_ok _ _ _ A1 (by omega)).mono ?_
  rintro e wn ⟨⟨vv, vq, rfl, Lv, Aq⟩, hb⟩
  replace HB := hid_below HB hb; replace A0 := A0.below hb; replace A1 := A1.below hb; replace Lw := Lw.below hb; replace Ap := Ap.below hb; clear hb
  go_wp2_with fail
  refine (of_any _ _ _ A0 (by omega)).mono ?_
  rintro e wn ⟨⟨vx, rfl, Nx⟩, hb⟩
  replace HB := hid_below HB hb; replace A0 := A0.below hb; replace A1 := A1.below hb; replace Lw := Lw.below hb; replace Ap := Ap.below hb; replace Lv := Lv.below hb; replace Aq := Aq.below hb
  clear hb
  go_wp2_with fail
  refine (of_any _ _ _ A1 (by omega)).mono ?_
  rintro e w1 ⟨⟨vy, rfl, Ny⟩, hb⟩
  replace HB := hid_below HB hb; replace A0 := A0.below hb; replace A1 := A1.below hb; replace Lw := Lw.below hb; replace Ap := Ap.below hb; replace Lv := Lv.below hb; replace Aq := Aq.below hb
  replace Nx := Nx.below hb
  clear hb
  clear Nx Ny
  go_wp2_with fail
  refine (rlow2_no vx vy k w1 hk).mono ?_
  rintro e w2 ⟨rfl, hw⟩; subst hw
  go_wp2_with fail
  refine (of_any _ _ _ A0 (by omega)).mono ?_
  rintro e wn ⟨⟨vx, rfl, Nx⟩, hb⟩
  replace HB := hid_below HB hb; replace A0 := A0.below hb; replace A1 := A1.below hb; replace Lw := Lw.below hb; replace Ap := Ap.below hb; replace Lv := Lv.below hb; replace Aq := Aq.below hb
  clear hb
  go_wp2_with fail
  refine (of_any _ _ _ A1 (by omega)).mono ?_
  rintro e w3 ⟨⟨vy, rfl, Ny⟩, hb⟩
  replace HB := hid_below HB hb; replace A0 := A0.below hb; replace A1 := A1.below hb; replace Lw := Lw.below hb; replace Ap := Ap.below hb; replace Lv := Lv.below hb; replace Aq := Aq.below hb
  replace Nx := Nx.below hb
  clear hb
  clear Nx Ny
  go_wp2_with fail
  refine (rhigh2_no _ _ k w3 hk).mono ?_
  rintro e w4 ⟨rfl, hw⟩; subst hw
  go_wp2_with fail
  refine (mlow_no vp vq k w4 hk).mono ?_
  rintro e w5 ⟨rfl, hw⟩; subst hw
  go_wp2_with fail
  refine (mhigh_no vp vq k w5 hk).mono ?_
  rintro e w6 ⟨rfl, hw⟩; subst hw
  have H3 : Hid (Below w6.heap.size w6 w6) := Below.refl _ _
  obtain ⟨r1, l1⟩ : ∃ r : List Nat, r = [] := ⟨_, rfl⟩
  obtain ⟨r2, l2⟩ : ∃ r : List Nat, r = [] := ⟨_, rfl⟩
  have Ch : Chain w6 w6.heap.size [.slice none 0 0, .slice none 0 0] [r1, r2] := by rw [l1, l2]; exact chain_nil2 w6 w6.heap.size (Nat.le_refl _)
  have l1' : r1.length ≤ 0 := by rw [l1]; simp
  have l2' : r2.length ≤ 0 := by rw [l2]; simp
  clear l1 l2
  go_wp2_with fail
  refine (alike_err none 0 _ 1 _ (by omega)).mono ?_
  rintro e wn ⟨rfl, hw⟩; subst hw
  go_wp2_with fail
  refine (alike_err none 0 _ 1 _ (by omega)).mono ?_
  rintro e wn ⟨rfl, hw⟩; subst hw
  go_wp2_with fail
  refine (own_chain wn.heap.size [_, _] [r1, r2] _ Ch (by simp) (by simp; omega) H3.out.size).mono ?_
  rintro e w12 ⟨rfl, hb⟩
  replace H3 : Hid (Below wn.heap.size wn w12) := H3.out.trans hb
  clear hb Ch
  go_wp2_with fail
  refine (kept_ok _ _ _ _ (Lw.below H3.out) (A0.below H3.out) (by omega)).mono ?_
  rintro e wn ⟨rfl, hw⟩; subst hw
  go_wp2_with fail
  refine (kept_ok _ _ _ _ (Lv.below H3.out) (A1.below H3.out) (by omega)).mono ?_
  rintro e wn ⟨rfl, hw⟩; subst hw
  have HA := awake_any _ (HT.out.below (HB.out.trans (H3.out.mono HB.out.size)))
  clear A0 A1 Lw Lv Ap Aq
  go_wp2_with fail
  refine HA.mono ?_
  rintro e w19 ⟨rfl, hb⟩
  replace H3 := hid_below H3 hb; clear hb HA
  go_wp2
  go_ret
  exact ⟨rfl, HB.out.trans (H3.out.mono HB.out.size)⟩

set_option maxRecDepth 100000 in
set_option maxHeartbeats 1000000 in
theorem mulHalves_yes (v0 : Value) (z0 : List Nat) (v1 : Value) (z1 : List Nat) (k : Nat) (w : World) (hT : Tab w) (A0 : Arg w v0 z0) (s0 : z0.length ≤ 1048576) (A1 : Arg w v1 z1) (s1 : z1.length ≤ 1048576) (hk : k ≤ 9223372036854775807) :
    Calls Tryd.prog 3 #[v0, v1, .int .i64 k] w fun e w' => e = .returned (.bool true) ∧ Below w.heap.size w w' := by
  have hlow := low_prod (val z0) (val z1) k
  rw [← (take_mod2 z0 A0.limbs (limbsOf k)).1, ← (take_mod2 z1 A1.limbs (limbsOf k)).1] at hlow
  have HLOW := hide hlow
  have lx : ((tr z0).take (limbsOf k)).length ≤ 4294967296 := by have := tr_length_le z0; simp; omega
  have ly : ((tr z1).take (limbsOf k)).length ≤ 4294967296 := by have := tr_length_le z1; simp; omega
  clear hlow
  have HB : Hid (Below w.heap.size w w) := Below.refl _ _
  have HT := hide hT
  have bx : blen (val z0) ≤ 1073741824 := by have := blen_val_le z0 A0.limbs; omega
  have by' : blen (val z1) ≤ 1073741824 := by have := blen_val_le z1 A1.limbs; omega
  clear hT
  go_enter Tryd.func3, Tryd.ntmps3
  go_wp2_with fail
  refine (lend_ok _ _ _ A0 (by omega)).mono ?_
  rintro e wn ⟨⟨vw, vp, rfl, Lw, Ap⟩, hb⟩
  replace HB := hid_below HB hb; replace A0 := A0.below hb; replace A1 := A1.below hb; clear hb
  go_wp2_with fail
  refine (lend_ok _ _ _ A1 (by omega)).mono ?_
  rintro e wn ⟨⟨vv, vq, rfl, Lv, Aq⟩, hb⟩
  replace HB := hid_below HB hb; replace A0 := A0.below hb; replace A1 := A1.below hb; replace Lw := Lw.below hb; replace Ap := Ap.below hb; clear hb
  go_wp2_with fail
  refine (of_any _ _ _ A0 (by omega)).mono ?_
  rintro e wn ⟨⟨vx, rfl, Nx⟩, hb⟩
  replace HB := hid_below HB hb; replace A0 := A0.below hb; replace A1 := A1.below hb; replace Lw := Lw.below hb; replace Ap := Ap.below hb; replace Lv := Lv.below hb; replace Aq := Aq.below hb
  clear hb
  go_wp2_with fail
  refine (of_any _ _ _ A1 (by omega)).mono ?_
  rintro e w1 ⟨⟨vy, rfl, Ny⟩, hb⟩
  replace HB := hid_below HB hb; replace A0 := A0.below hb; replace A1 := A1.below hb; replace Lw := Lw.below hb; replace Ap := Ap.below hb; replace Lv := Lv.below hb; replace Aq := Aq.below hb
  replace Nx := Nx.below hb
  clear hb
  have HM := rlow2_any vx vy _ _ k w1 Nx Ny bx by' hk
  clear Nx Ny
  go_wp2_with fail
  refine HM.mono ?_
  rintro e w2 ⟨hb, n1, f1, rfl, hn1⟩
  replace HB := hid_below HB hb; replace A0 := A0.below hb; replace A1 := A1.below hb; replace Lw := Lw.below hb; replace Ap := Ap.below hb; replace Lv := Lv.below hb; replace Aq := Aq.below hb
  clear hb HM
  have H2 : Hid (Below w2.heap.size w2 w2) := Below.refl _ _
  go_wp2_with fail
  refine (of_any _ _ _ A0 (by omega)).mono ?_
  rintro e wn ⟨⟨vx2, rfl, Nx⟩, hb⟩
  replace HB := hid_below HB hb; replace A0 := A0.below hb; replace A1 := A1.below hb; replace Lw := Lw.below hb; replace Ap := Ap.below hb; replace Lv := Lv.below hb; replace Aq := Aq.below hb
  replace H2 := hid_below H2 hb
  clear hb
  go_wp2_with fail
  refine (of_any _ _ _ A1 (by omega)).mono ?_
  rintro e wo ⟨⟨vy2, rfl, Ny⟩, hb⟩
  replace HB := hid_below HB hb; replace A0 := A0.below hb; replace A1 := A1.below hb; replace Lw := Lw.below hb; replace Ap := Ap.below hb; replace Lv := Lv.below hb; replace Aq := Aq.below hb
  replace Nx := Nx.below hb
  replace H2 := hid_below H2 hb
  clear hb
  have HM := rhigh2_any vx2 vy2 _ _ k wo Nx Ny bx by' hk
  clear Nx Ny
  go_wp2_with fail
  refine HM.mono ?_
  rintro e w3 ⟨hb, n2, f2, rfl, hn2⟩
  replace HB := hid_below HB hb; replace A0 := A0.below hb; replace A1 := A1.below hb; replace Lw := Lw.below hb; replace Ap := Ap.below hb; replace Lv := Lv.below hb; replace Aq := Aq.below hb
  replace H2 := hid_below H2 hb
  replace hn1 := resN_below hn1 H2.out
  clear hb HM H2
  have H3 : Hid (Below w3.heap.size w3 w3) := Below.refl _ _
  have HM := mlow_any vp vq z0 z1 k w3 Ap Aq (HT.out.below HB.out) hk lx ly HLOW.out
  go_wp2_with fail
  refine HM.mono ?_
  rintro e w4 ⟨hb, p1, c1, r1, rfl, An1, hr1⟩
  have l1 := Res.few An1 hr1
  obtain ⟨o1, m1, q1, rfl⟩ := An1.slice
  have Ch : Chain w4 w3.heap.size [.slice o1 m1 q1] [r1] := Chain.one An1 hb.size
  replace hn1 := resN_below hn1 hb
  replace hn2 := resN_below hn2 hb
  replace H3 := hid_below H3 hb
  clear hb HM
  have HM := mhigh_any vp vq z0 z1 k w4 (Ap.below H3.out) (Aq.below H3.out) (HT.out.below (HB.out.trans (H3.out.mono HB.out.size))) (by omega) hk (.inr (by omega))
  go_wp2_with fail
  refine HM.mono ?_
  rintro e w5 ⟨hb, p2, c2, r2, rfl, An2, hr2⟩
  have l2 := Res.few An2 hr2
  obtain ⟨o2, m2, q2, rfl⟩ := An2.slice
  replace Ch : Chain w5 w3.heap.size [.slice o1 m1 q1, .slice o2 m2 q2] [r1, r2] := Ch.snoc hb An2 H3.out.size
  replace hn1 := resN_below hn1 hb
  replace hn2 := resN_below hn2 hb
  replace H3 := hid_below H3 hb
  replace An1 := An1.below hb
  clear hb HM
  have HAL := alike_ok _ n1 c1 f1 r1 _ _ w5 An1 l1 hr1 hn1
  clear An1 hr1 hn1
  go_wp2_with fail
  refine HAL.mono ?_
  rintro e w6 ⟨rfl, hb⟩
  replace H3 := hid_below H3 hb; replace Ch := Ch.below hb; replace An2 := An2.below hb
  replace hn2 := resN_below hn2 hb
  clear hb HAL
  have HAL := alike_ok _ n2 c2 f2 r2 _ _ w6 An2 l2 hr2 hn2
  clear An2 hr2 hn2
  go_wp2_with fail
  refine HAL.mono ?_
  rintro e w7 ⟨rfl, hb⟩
  replace H3 := hid_below H3 hb; replace Ch := Ch.below hb
  clear hb HAL
  go_wp2_with fail
  refine (own_chain w3.heap.size [_, _] [r1, r2] _ Ch (by simp) (by simp; omega) H3.out.size).mono ?_
  rintro e w12 ⟨rfl, hb⟩
  replace H3 : Hid (Below w3.heap.size w3 w12) := H3.out.trans hb
  clear hb Ch
  go_wp2_with fail
  refine (kept_ok _ _ _ _ (Lw.below H3.out) (A0.below H3.out) (by omega)).mono ?_
  rintro e wn ⟨rfl, hw⟩; subst hw
  go_wp2_with fail
  refine (kept_ok _ _ _ _ (Lv.below H3.out) (A1.below H3.out) (by omega)).mono ?_
  rintro e wn ⟨rfl, hw⟩; subst hw
  have HA := awake_any _ (HT.out.below (HB.out.trans (H3.out.mono HB.out.size)))
  clear A0 A1 Lw Lv Ap Aq
  go_wp2_with fail
  refine HA.mono ?_
  rintro e w19 ⟨rfl, hb⟩
  replace H3 := hid_below H3 hb; clear hb HA
  go_wp2
  go_ret
  exact ⟨rfl, HB.out.trans (H3.out.mono HB.out.size)⟩

theorem mulHalves_walk (v0 : Value) (z0 : List Nat) (v1 : Value) (z1 : List Nat) (k : Int) (w : World) (hT : Tab w) (A0 : Arg w v0 z0) (s0 : z0.length ≤ 1048576) (A1 : Arg w v1 z1) (s1 : z1.length ≤ 1048576) (_h1 : -9223372036854775808 ≤ k) (_h2 : k ≤ 9223372036854775807) :
    Calls Tryd.prog 3 #[v0, v1, .int .i64 k] w fun e w' => e = .returned (.bool true) ∧ Below w.heap.size w w' := by
  by_cases hk : k < 0
  · exact mulHalves_no v0 z0 v1 z1 k w hT A0 s0 A1 s1 hk
  · obtain ⟨n, rfl⟩ := Int.eq_ofNat_of_zero_le (show 0 ≤ k by omega)
    exact mulHalves_yes v0 z0 v1 z1 n w hT A0 s0 A1 s1 (by omega)

end Go.Proofs.YtmloigbacfllhabDoor
