/- The walk of the law NatForms. -/
import Derived.Test.YtmloigbacfllhaaDoorLives
import Derived.Test.YtmloigbacfllhaaDoorOwnL
import Derived.Test.YtmloigbacfllhaaDoorRefE
import Derived.Test.YtmloigbacfllhaaDoorRefP
import Derived.Test.YtmloigbacfllhaaDoorNatI
namespace Go.Proofs.YtmloigbacfllhaaDoor
open Go.RowKit
open Lm

theorem small_val (X : List Nat) (h : (tr X).length ≤ 1) : val X = (tr X).getD 0 0 := by
  rw [← val_tr]
  generalize tr X = Y at *
  match Y, h with
  | [], _ => rfl
  | [z], _ => simp [val]

theorem small_len (X : List Nat) (hX : Limbs X) : (tr X).length ≤ 1 ↔ blen (val X) ≤ 64 := by
  constructor
  · intro h
    have := blen_val_le (tr X) (limbs_tr hX)
    rw [val_tr] at this
    omega
  · intro h
    exact few_limbs X 1 (by omega)

theorem Tab.alloc {w : World} (h : Tab w) (o : Obj) : Tab (w.alloc o) := h.below ((Below.refl _ _).alloc (Nat.le_refl _) _)

set_option maxRecDepth 100000 in
set_option maxHeartbeats 1000000 in
theorem natForms_walk (v0 : Value) (z0 : List Nat) (v1 : Value) (z1 : List Nat) (n : Int) (w : World) (hT : Tab w)
    (A0 : Arg w v0 z0) (s0 : z0.length ≤ 17592186043904) (A1 : Arg w v1 z1) (s1 : z1.length ≤ 17592186043904) (h1 : -9223372036854775808 ≤ n) (h2 : n ≤ 9223372036854775807) :
    Calls Tryd.prog 3 #[v0, v1, .int .i64 n] w fun e w' => e = .returned (.bool true) ∧ Below w.heap.size w w' := by
  obtain ⟨u, hu, hu2⟩ : ∃ u : Nat, IntKind.u64.wrap n = (u : Int) ∧ u < 18446744073709551616 := ⟨(IntKind.u64.wrap n).toNat, by rw [IntKind.wrap_u64]; omega, by rw [IntKind.wrap_u64]; omega⟩
  have HUB : Hid (blen (val [u]) ≤ 1125899906842624) := by
    have := blen_val_le [u] (fun z hz => by rw [List.mem_singleton.1 hz]; exact hu2)
    simp at this
    exact Nat.le_trans this (by omega)
  have HB : Hid (Below w.heap.size w w) := Below.refl _ _
  have bx := A0.bits s0
  have HT := hide hT
  clear hT
  have hl0 := tr_length_le z0
  have LS := hide (small_len z0 A0.limbs)
  have HPC := hide (pcs_blen z0 A0.limbs)
  go_enter Tryd.func3, Tryd.ntmps3
  go_wp2_with fail
  refine (lend_ok _ _ _ A0 (by omega)).mono ?_
  rintro e wn ⟨⟨vw, vp, rfl, Lw, Ap⟩, hb⟩
  replace HB := hid_below HB hb; replace A0 := A0.below hb; replace A1 := A1.below hb; replace HT := hide (HT.out.below hb); clear hb
  go_wp2_with fail
  refine (of_any _ _ _ A0 (by omega)).mono ?_
  rintro e wn ⟨⟨vx, rfl, Nx⟩, hb⟩
  replace HB := hid_below HB hb; replace A0 := A0.below hb; replace A1 := A1.below hb; replace Lw := Lw.below hb; replace Ap := Ap.below hb; replace HT := hide (HT.out.below hb); clear hb
  go_wp2_with fail
  refine (of_any _ _ _ A1 (by omega)).mono ?_
  rintro e w2 ⟨⟨vy, rfl, Ny⟩, hb⟩
  replace HB := hid_below HB hb; replace A0 := A0.below hb; replace A1 := A1.below hb; replace Lw := Lw.below hb; replace Ap := Ap.below hb; replace Nx := Nx.below hb; replace HT := hide (HT.out.below hb); clear hb
  have H2 : Hid (Below w2.heap.size w2 w2) := Below.refl _ _
  go_wp2_with fail
  refine (nnorm_any _ _ _ Ap (by omega)).mono ?_
  rintro e w3 ⟨⟨va, rfl, Aa⟩, hb⟩
  have hsz := hb.size
  replace H2 := hid_below H2 hb; clear hb
  obtain ⟨aa, na, ca, rfl⟩ := Aa.slice
  go_wp2_with fail
  refine (nnorm_any _ _ _ (Ap.below H2.out) (by omega)).mono ?_
  rintro e w4 ⟨⟨vb', rfl, Ab⟩, hb⟩
  replace H2 := hid_below H2 hb
  obtain ⟨ab, nb, cb, rfl⟩ := Ab.slice
  have Ch : Chain w4 w2.heap.size [.slice aa na ca, .slice ab nb cb] [tr z0, tr z0] := (Chain.one Aa hsz).snoc hb Ab hsz
  replace Aa := Aa.below hb
  clear hb hsz Ab
  go_wp2_with fail
  refine (is_true _ _ _ _ _ (Nx.below H2.out) (Aa.arg (by omega)) (tr_tr _) (val_tr _) (by omega)).mono ?_
  rintro e w5 ⟨rfl, hb⟩
  replace H2 := hid_below H2 hb; replace Ch := Ch.below hb; clear hb Aa
  go_wp2_with fail
  refine (own_chain w2.heap.size [.slice aa na ca, .slice ab nb cb] [tr z0, tr z0] w5 Ch (by simp) (by simp; omega) H2.out.size).mono ?_
  rintro e w6 ⟨rfl, hb⟩
  replace H2 : Hid (Below w2.heap.size w2 w6) := H2.out.trans hb
  clear hb Ch
  go_wp2_with fail
  refine (kept_ok _ _ _ _ (Lw.below H2.out) (A0.below H2.out) (by omega)).mono ?_
  rintro e wn ⟨rfl, hw⟩; subst hw
  go_wp2_with fail
  refine (compare_any _ _ _ _ _ (Ap.below H2.out) (A1.below H2.out)).mono ?_
  rintro e w7 ⟨rfl, hs⟩
  replace H2 := hid_below H2 hs.top; clear hs
  go_wp2_with fail
  refine (rcmp_any _ _ _ _ _ (Nx.below H2.out) (Ny.below H2.out)).mono ?_
  rintro e w8 ⟨rfl, hs⟩
  replace H2 := hid_below H2 hs.top; clear hs
  generalize cmpN (val z0) (val z1) = cc
  go_wp2_with fail
  refine (length_val _ _ _ (Ap.below H2.out)).mono ?_
  rintro e wn ⟨rfl, hw⟩; subst hw
  go_wp2_with fail
  refine (len_any _ _ _ (Nx.below H2.out)).mono ?_
  rintro e wn ⟨rfl, hw⟩; subst hw
  go_wp2_with fail
  refine (nbit_any _ _ _ _ (Ap.below H2.out) h1 h2).mono ?_
  rintro e wn ⟨rfl, hw⟩; subst hw
  go_wp2_with fail
  refine (rbitI_any _ _ _ _ (Nx.below H2.out) h1 h2).mono ?_
  rintro e wn ⟨rfl, hw⟩; subst hw
  generalize bitI (val z0) n = bb
  go_wp2_with fail
  refine (tail_any _ _ _ (Ap.below H2.out) (HT.out.below H2.out)).mono ?_
  rintro e wn ⟨⟨t, htl, rfl, ht0, ht1⟩, hw⟩; subst hw
  have HTL : Hid ((val z0 = 0 ∧ t = 0) ∨ IsTail (val z0) t) := by
    by_cases h0 : val z0 = 0
    · exact .inl ⟨h0, ht0 h0⟩
    · exact .inr (ht1 h0)
  clear ht0 ht1
  go_wp2_with fail
  refine (rtail_any _ _ t _ (Nx.below H2.out) HTL.out).mono ?_
  rintro e wn ⟨rfl, hw⟩; subst hw
  clear HTL
  go_wp2_with fail
  refine (count_any _ _ _ (Ap.below H2.out)).mono ?_
  rintro e wn ⟨rfl, hw⟩; subst hw
  go_wp2_with fail
  refine (rcount_any _ _ _ (Nx.below H2.out) (by omega)).mono ?_
  rintro e wn ⟨rfl, hw⟩; subst hw
  rw [← HPC.out]
  generalize pcs z0 = pp
  have SM := small_any _ _ _ (Ap.below H2.out)
  have LN := len_any _ _ _ (Nx.below H2.out)
  by_cases hS : (tr z0).length ≤ 1
  · have hd := LS.out.1 hS
    have HSV := hide (small_val z0 hS)
    have hdl := limb_lt (limbs_tr A0.limbs) 0
    rw [if_pos hS, decide_eq_true hS] at SM
    have HSS := hide hS
    clear LS hS
    generalize (tr z0).getD 0 0 = d at *
    have e1 : decide ((blen (val z0) : Int) ≤ 64) = true := decide_eq_true (by omega)
    go_wp2_with fail
    refine SM.mono ?_
    rintro e wn ⟨rfl, hw⟩; subst hw
    go_wp2_with fail
    refine LN.mono ?_
    rintro e wn ⟨rfl, hw⟩; subst hw
    clear SM LN
    go_wp2_with fail
    refine (of_any _ _ _ (Arg.lit _ d hdl) (by simp)).mono ?_
    rintro e w9 ⟨⟨vd, rfl, Nd⟩, hb⟩
    replace H2 : Hid (Below w2.heap.size w2 w9) := hid_below H2 (((Below.refl _ _).alloc (Nat.le_refl _) _).trans (hb.mono (by simp)))
    clear hb
    go_wp2_with fail
    refine (nnorm_any _ _ _ (A0.below H2.out) (by omega)).mono ?_
    rintro e w10 ⟨⟨vn, rfl, An⟩, hb⟩
    replace H2 := hid_below H2 hb; replace Nd := Nd.below hb; clear hb
    go_wp2_with fail
    refine (is_true _ _ _ _ _ Nd (An.arg (by omega)) (tr_tr _) (by rw [val_tr, HSV.out]; simp [val]) (by have := HSV.out; simp [val]; rw [← this]; omega)).mono ?_
    rintro e w10' ⟨rfl, hb⟩
    replace H2 := hid_below H2 hb; clear hb Nd An
    go_wp2_with fail
    refine (of_any _ _ _ (Arg.lit _ u hu2) (by simp)).mono ?_
    rintro e w11 ⟨⟨vu, rfl, Nu⟩, hb⟩
    replace H2 : Hid (Below w2.heap.size w2 w11) := hid_below H2 (((Below.refl _ _).alloc (Nat.le_refl _) _).trans (hb.mono (by simp)))
    clear hb
    go_wp2_with fail
    refine (from_any u _ hu2).mono ?_
    rintro e w12 ⟨⟨vf, rfl, Af⟩, hb⟩
    replace H2 := hid_below H2 hb; replace Nu := Nu.below hb; clear hb
    go_wp2_with fail
    refine (is_true _ _ _ _ _ Nu (Af.arg (by have := tr_length_le [u]; simp at this; omega)) (tr_tr _) (val_tr _) HUB.out).mono ?_
    rintro e w13 ⟨rfl, hb⟩
    replace H2 := hid_below H2 hb; clear hb Nu Af
    go_wp2_with fail
    refine (kept_ok _ _ _ _ (Lw.below H2.out) (A0.below H2.out) (by omega)).mono ?_
    rintro e wn ⟨rfl, hw⟩; subst hw
    go_wp2_with fail
    refine (lives_any _).mono ?_
    rintro e wn ⟨rfl, hb⟩
    replace H2 := hid_below H2 hb; clear hb
    go_wp2
    go_ret
    exact ⟨rfl, HB.out.trans (H2.out.mono HB.out.size)⟩
  · have hd : ¬ blen (val z0) ≤ 64 := fun h => hS (LS.out.2 h)
    rw [if_neg hS, decide_eq_false hS] at SM
    have HSS := hide hS
    clear LS hS
    have e1 : decide ((blen (val z0) : Int) ≤ 64) = false := decide_eq_false (by omega)
    have e2 : (64 : Int) < (blen (val z0) : Int) := by omega
    have e3 : 64 < blen (val z0) := by omega
    go_wp2_with fail
    refine SM.mono ?_
    rintro e wn ⟨rfl, hw⟩; subst hw
    go_wp2_with fail
    refine LN.mono ?_
    rintro e wn ⟨rfl, hw⟩; subst hw
    clear SM LN
    go_wp2_with fail
    refine (of_any _ _ _ (Arg.lit _ u hu2) (by simp)).mono ?_
    rintro e w11 ⟨⟨vu, rfl, Nu⟩, hb⟩
    replace H2 : Hid (Below w2.heap.size w2 w11) := hid_below H2 (((Below.refl _ _).alloc (Nat.le_refl _) _).trans (hb.mono (by simp)))
    clear hb
    go_wp2_with fail
    refine (from_any u _ hu2).mono ?_
    rintro e w12 ⟨⟨vf, rfl, Af⟩, hb⟩
    replace H2 := hid_below H2 hb; replace Nu := Nu.below hb; clear hb
    go_wp2_with fail
    refine (is_true _ _ _ _ _ Nu (Af.arg (by have := tr_length_le [u]; simp at this; omega)) (tr_tr _) (val_tr _) HUB.out).mono ?_
    rintro e w13 ⟨rfl, hb⟩
    replace H2 := hid_below H2 hb; clear hb Nu Af
    go_wp2_with fail
    refine (kept_ok _ _ _ _ (Lw.below H2.out) (A0.below H2.out) (by omega)).mono ?_
    rintro e wn ⟨rfl, hw⟩; subst hw
    go_wp2_with fail
    refine (lives_any _).mono ?_
    rintro e wn ⟨rfl, hb⟩
    replace H2 := hid_below H2 hb; clear hb
    go_wp2
    go_ret
    exact ⟨rfl, HB.out.trans (H2.out.mono HB.out.size)⟩

end Go.Proofs.YtmloigbacfllhaaDoor
