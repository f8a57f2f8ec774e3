/- Package mul: split. -/
import Derived.Test.YtmloigbacfllhabDoorQF
import Derived.Test.YtmloigbacfllhabDoorQG
import Derived.Test.YtmloigbacfllhabDoorQH
namespace Go.Proofs.YtmloigbacfllhabDoor
open Go.RowKit
open Lm

theorem Arg.empty (w : World) (a : Option Addr) (c : Nat) (hc : c ≤ 9223372036854775807) (h : a = none → c = 0) : Arg w (.slice a 0 c) [] :=
  ⟨⟨_, _, rfl, by simp, hc, .inl rfl⟩, (by intro z hz; cases hz), by simp, fun n c e => by cases e; exact h rfl⟩

set_option maxHeartbeats 400000 in
theorem split_any (v : Value) (X : List Nat) (k : Int) (w : World) (hA : Arg w v X) (hk : 0 ≤ k) :
    Calls Tryd.prog 66 #[v, .int .i64 k] w fun e w' => (∃ v1 v2, e = .returned (.tuple #[v1, v2]) ∧ Arg w v1 ((tr X).take k.toNat) ∧ Arg w v2 ((tr X).drop k.toNat)) ∧ Same w w' := by
  obtain ⟨a1, c1, rfl, hcc1, hcm1, hl1⟩ := hA.form
  have H1 := mtrim_any a1 c1 X w hcc1 hcm1 hl1
  have hX := hA.few
  have hle := tr_length_le X
  have AP := hA.trim
  have LP := hl1.tr
  clear hA hl1
  generalize tr X = P at *
  obtain ⟨t, et, ht1, ht2⟩ : ∃ t : Nat, min k (P.length : Int) = (t : Int) ∧ t ≤ P.length ∧ (t = k.toNat ∨ (t = P.length ∧ P.length ≤ k.toNat)) := ⟨min k.toNat P.length, by omega, by omega, by omega⟩
  have e1 : P.take k.toNat = P.take t := by
    rcases ht2 with h | ⟨h, h'⟩
    · rw [h]
    · rw [h, List.take_of_length_le h', List.take_length]
  have e2 : P.drop k.toNat = P.drop t := by
    rcases ht2 with h | ⟨h, h'⟩
    · rw [h]
    · rw [h, List.drop_of_length_le h', List.drop_length]
  rw [e1, e2]
  clear e1 e2 ht2
  have k0 : (0 : Int) ≤ (t : Int) := by omega
  have k1 : (t : Int) ≤ (P.length : Int) := by omega
  have k2 : (t : Int) ≤ (c1 : Int) := by omega
  rcases LP with h0 | ⟨b, off, rfl, hc⟩
  · subst h0
    have m0 : min k (0 : Int) = 0 := by omega
    have t0 : t = 0 := by simpa using ht1
    subst t0
    have HA1 := hide (Arg.empty w a1 c1 hcm1 (fun e => by subst e; exact AP.nz _ _ rfl))
    rw [List.take_nil, List.drop_nil]
    cases a1 with
    | none =>
      have hc0 : c1 = 0 := AP.nz _ _ rfl
      subst hc0
      have HA2 := hide (Arg.empty w none 0 (by omega) (fun _ => rfl))
      clear AP
      go_enter Tryd.func66, Tryd.ntmps66
      go_wp2_with fail
      refine H1.mono ?_
      rintro e w2 ⟨rfl, hw⟩; subst hw
      clear H1
      go_wp2
      go_quiet (fail)
      go_wp2
      go_ret2
      exact ⟨⟨_, _, rfl, HA1.out, HA2.out⟩, (Same.refl _).drewN _⟩
    | some x =>
      by_cases hc0 : c1 = 0
      · subst hc0
        have HA2 := hide (Arg.empty w (some x) 0 (by omega) (fun _ => rfl))
        clear AP
        go_enter Tryd.func66, Tryd.ntmps66
        go_wp2_with fail
        refine H1.mono ?_
        rintro e w2 ⟨rfl, hw⟩; subst hw
        clear H1
        go_wp2
        go_quiet (fail)
        go_wp2
        go_ret2
        exact ⟨⟨_, _, rfl, HA1.out, HA2.out⟩, (Same.refl _).drewN _⟩
      · have HA2 := hide (fun (y : Addr) (c : Nat) (h : c ≤ 9223372036854775807) => Arg.empty w (some y) c h (fun e => by cases e))
        clear AP
        go_enter Tryd.func66, Tryd.ntmps66
        go_wp2_with fail
        refine H1.mono ?_
        rintro e w2 ⟨rfl, hw⟩; subst hw
        clear H1
        go_wp2
        go_quiet (fail)
        go_wp2
        go_ret2
        exact ⟨⟨_, _, rfl, HA1.out, HA2.out _ _ (by omega)⟩, (Same.refl _).drewN _⟩
  · have HA1 := hide (AP.front t ht1)
    by_cases hct : c1 = t
    · have HA2 : Hid (Arg w (.slice (some ⟨b, off, none⟩) 0 0) (P.drop t)) := hide (by
        rw [List.drop_of_length_le (by omega)]; exact Arg.empty w _ 0 (by omega) (fun e => by cases e))
      have e3 : P.length - t = 0 := by omega
      have e4 : t - t = 0 := by omega
      subst hct
      clear AP hc
      go_enter Tryd.func66, Tryd.ntmps66
      go_wp2_with fail
      refine H1.mono ?_
      rintro e w2 ⟨rfl, hw⟩; subst hw
      clear H1
      go_wp2
      go_quiet (fail)
      go_wp2
      go_ret2
      exact ⟨⟨_, _, rfl, HA1.out, HA2.out⟩, (Same.refl _).drewN _⟩
    · have HA2 := hide (AP.drop t ht1)
      clear AP hc
      go_enter Tryd.func66, Tryd.ntmps66
      go_wp2_with fail
      refine H1.mono ?_
      rintro e w2 ⟨rfl, hw⟩; subst hw
      clear H1
      go_wp2
      go_quiet (fail)
      go_wp2
      go_ret2
      exact ⟨⟨_, _, rfl, HA1.out, HA2.out⟩, (Same.refl _).drewN _⟩

end Go.Proofs.YtmloigbacfllhabDoor

/- Package mul: Split. -/
namespace Go.Proofs.YtmloigbacfllhabDoor
open Go.RowKit
open Lm

/-- 'make' of limbs, as an equation. -/
theorem make_run (n : Nat) (hn : n ≤ 35184372088831) (w : World) :
    (Instr.makeSlice 29 (.int .i64 (n : Int)) (.int .i64 (n : Int))).run Tryd.prog w = .ok (.slice (some ⟨w.heap.size, 0, none⟩) n n) (w.alloc (.cells (Array.replicate n (lv 0)) 62)) := by
  obtain ⟨i0, hi, hz0, hz1, hz2⟩ := info_parts Tryd.infoU
  rw [run_make w 29 62 i0 (.int .u64 0) Tryd.underlying29 hi hz0 .i64 .i64 n n (by omega) (by omega) (by rw [hz2]; omega) (by omega)]
  have e : (madeCells (Value.int .u64 0).cells ((n : Int).toNat * i0.size)) = Array.replicate n (lv 0) := by
    apply Array.toList_inj.1
    rw [hz1, Nat.mul_one]
    show (madeCells #[Value.int .u64 0] _).toList = _
    rw [toList_madeCells_one, Int.toNat_natCast, Array.toList_replicate]; rfl
  rw [e, Int.toNat_natCast]

theorem Blk.zeros (w : World) (n : Nat) : Blk (w.alloc (.cells (Array.replicate n (lv 0)) 62)) w.heap.size (List.replicate n 0) := by
  unfold Blk
  rw [heap_alloc_new, List.map_replicate, List.toArray_replicate]

theorem manswer_yes (g n cap base : Nat) (xs : List Nat) (w : World) (h : Ans w base (.slice (some ⟨g, 0, none⟩) n cap) xs) (hf : xs.length ≤ 1125899906842624) (hy : blen (val xs) ≤ 67108864) :
    Calls Tryd.prog 68 #[.slice (some ⟨g, 0, none⟩) n cap] w fun e w' => e = .returned (.tuple #[.slice (some ⟨g, 0, none⟩) (tr xs).length cap, .int .i64 0]) ∧ w' = w := by
  have ha := h.arg hf
  obtain ⟨_, _, e0, hcap, hmax, hlies⟩ := ha.form
  cases e0
  have H1 := mtrim_any _ cap xs w hcap hmax hlies
  have H2 := length_val _ _ _ ha
  generalize tr xs = T at *
  generalize val xs = V at *
  generalize blen V = y at *
  clear hlies h ha
  go_enter Tryd.func68, Tryd.ntmps68
  go_wp2_with fail
  refine H2.mono ?_
  rintro e w' ⟨rfl, rfl⟩
  go_wp2_with fail
  refine H1.mono ?_
  rintro e w' ⟨rfl, rfl⟩
  go_wp2
  go_ret2
  exact ⟨rfl, rfl⟩

theorem manswer_no (v : Value) (xs : List Nat) (w : World) (ha : Arg w v xs) (hy : 67108864 < blen (val xs)) :
    Calls Tryd.prog 68 #[v] w fun e w' => e = .returned (.tuple #[.slice none 0 0, .int .i64 3]) ∧ w' = w := by
  have H2 := length_val _ _ _ ha
  generalize val xs = V at *
  generalize blen V = y at *
  clear ha
  go_enter Tryd.func68, Tryd.ntmps68
  go_wp2_with fail
  refine H2.mono ?_
  rintro e w' ⟨rfl, rfl⟩
  go_wp2
  go_ret2
  exact ⟨rfl, rfl⟩

theorem Arg.lies {w : World} {a : Option Addr} {n c : Nat} {X : List Nat} (h : Arg w (.slice a n c) X) : Lies w a X := by
  obtain ⟨_, _, e, _, _, hl⟩ := h.form
  cases e
  exact hl


/-- Two answers, or an error. -/
def Res2 (w : World) (base : Nat) (e : Ending) (s t : Nat) : Prop :=
  ∃ v1 v2 c r1 r2, e = .returned (.tuple #[v1, v2, .int .i64 c]) ∧ Ans w base v1 r1 ∧ Ans w base v2 r2 ∧ (v1.ownBlock = none ∨ v1.ownBlock ≠ v2.ownBlock) ∧ (v2.ownBlock = none ∨ v2.ownBlock ≠ v1.ownBlock) ∧
    ((c = 0 ∧ val r1 = s ∧ tr r1 = r1 ∧ val r2 = t ∧ tr r2 = r2 ∧ blen s ≤ 67108864 ∧ blen t ≤ 67108864) ∨ (c = 3 ∧ r1 = [] ∧ r2 = [] ∧ (67108864 < blen s ∨ 67108864 < blen t)))

theorem msplit_no (v : Value) (k : Int) (w : World) (hk : k < 0) :
    Calls Tryd.prog 33 #[v, .int .i64 k] w fun e w' => e = .returned (.tuple #[.slice none 0 0, .slice none 0 0, .int .i64 1]) ∧ w' = w := by
  go_enter Tryd.func33, Tryd.ntmps33
  go_wp2
  go_returns
  exact ⟨rfl, rfl⟩

set_option maxRecDepth 20000 in
set_option maxHeartbeats 1000000 in
theorem msplit_any (v : Value) (X : List Nat) (k : Int) (w : World) (hA : Arg w v X) (hk : 0 ≤ k) (hf : X.length ≤ 17592186044415) :
    Calls Tryd.prog 33 #[v, .int .i64 k] w fun e w' => Below w.heap.size w w' ∧ Res2 w' w.heap.size e (val ((tr X).take k.toNat)) (val ((tr X).drop k.toNat)) := by
  have HS := split_any v X k w hA hk
  have hle := tr_length_le X
  have hkd : decide (k < 0) = false := decide_eq_false (by omega)
  clear hA
  have lp1 : ((tr X).take k.toNat).length ≤ 17592186044415 := by simp; omega
  have lp2 : ((tr X).drop k.toNat).length ≤ 17592186044415 := by simp; omega
  generalize (tr X).take k.toNat = P at *
  generalize (tr X).drop k.toNat = Q at *
  go_enter Tryd.func33, Tryd.ntmps33
  go_wp2_with fail
  refine HS.mono ?_
  rintro e w1 ⟨⟨v1, v2, rfl, A1, A2⟩, hs⟩
  have hb1 := hs.below w.heap.size
  have hz1 := hs.size
  replace A1 := A1.below hb1
  replace A2 := A2.below hb1
  obtain ⟨a1, c1, rfl, hcc1, hcm1, L1⟩ := A1.form
  obtain ⟨a2, c2, rfl, hcc2, hcm2, L2⟩ := A2.form
  have HB1 := hide hb1
  have HA1 := hide A1
  have HA2 := hide A2
  have hm1 := make_run P.length (by omega)
  have hm2 := make_run Q.length (by omega)
  clear HS hs hb1 A1 A2 L1 L2
  go_wp2
  go_region
  · obtain ⟨w4, hw4⟩ : ∃ w4, w4 = ((w1.alloc (.cells (Array.replicate P.length (lv 0)) 62)).alloc (.cells (Array.replicate Q.length (lv 0)) 62)).drew := ⟨_, rfl⟩
    have BX : Blk w4 w.heap.size (List.replicate P.length 0) := by rw [hw4, ← hz1]; exact (Blk.zeros w1 P.length).alloc _
    have BY : Blk w4 (w.heap.size + 1) (List.replicate Q.length 0) := by
      have := Blk.zeros (w1.alloc (.cells (Array.replicate P.length (lv 0)) 62)) Q.length
      rw [hw4, ← hz1]
      rwa [World.size_alloc] at this
    have BB : Hid (Below w.heap.size w1 w4) := hide (by rw [hw4, ← hz1]; exact (((Below.refl _ _).alloc (Nat.le_refl _) _).alloc (by simp) _).drew)
    clear hm1 hm2
    have hb4 : Below w.heap.size w w4 := HB1.out.trans (BB.out.mono (by omega))
    have hne : w.heap.size ≠ (w.heap.size+1) := by omega
    have z1 := sv_zeros P.length 0 P.length
    have z2 := sv_zeros Q.length 0 Q.length
    have P4 := HA1.out.below (w' := w4) (by rw [hz1]; exact BB.out)
    obtain ⟨w5, M1, hcp1, B5, L5, F5, O5, S5⟩ := copy_q w.heap.size 0 P.length P.length _ a1 c1 P w4 BX (limbs_replicate _) P4.limbs z1 (by simp) (Nat.le_refl _) P4.lies
    have hb5 : Below w.heap.size w1 w5 := BB.out.trans (F5.below (by omega) (by have := hb4.size; omega))
    have Q5 := HA2.out.below (w' := w5) (by rw [hz1]; exact hb5)
    obtain ⟨w6, M2, hcp2, B6, L6, F6, O6, S6⟩ := copy_q (w.heap.size+1) 0 Q.length Q.length _ a2 c2 Q w5 (F5.blk BY (Ne.symm hne)) (limbs_replicate _) Q5.limbs z2 (by simp) (Nat.le_refl _) Q5.lies
    have B6x := F6.blk B5 hne
    have hb6 : Below w.heap.size w w6 := HB1.out.trans (hb5.trans (F6.below (by omega) (by have := hb5.size; omega)))
    have l5 : M1.length = P.length := by rw [O5.len]; simp
    have l6 : M2.length = Q.length := by rw [O6.len]; simp
    have s5 : val M1 = val P := by rw [← S5, ← l5, sv_all]
    have s6 : val M2 = val Q := by rw [← S6, ← l6, sv_all]
    have AX := Ans.of_blk (base := w.heap.size) (zs := M1) (by omega) B6x List.take_length.symm (Nat.le_refl _) (by omega) L5
    have AY := Ans.of_blk (base := w.heap.size) (zs := M2) (by omega) B6 List.take_length.symm (Nat.le_refl _) (by omega) L6
    rw [l5] at AX
    rw [l6] at AY
    have HB6 := hide hb6
    have HAX := hide AX
    have HAY := hide AY
    have tX := tr_length_le M1
    have tY := tr_length_le M2
    have HTX := hide (And.intro (tr_tr M1) (And.intro ((val_tr M1).trans s5) (And.intro (tr_tr M2) ((val_tr M2).trans s6))))
    rw [hw4] at hcp1
    by_cases h1 : blen (val P) ≤ 67108864
    · have HX := manswer_yes w.heap.size P.length P.length w.heap.size M1 w6 AX (by omega) (by rw [s5]; exact h1)
      by_cases h2 : blen (val Q) ≤ 67108864
      · have HY := manswer_yes (w.heap.size+1) Q.length Q.length w.heap.size M2 w6 AY (by omega) (by rw [s6]; exact h2)
        have HR := hide (show Below w.heap.size w w6 ∧ Res2 w6 w.heap.size (.returned (.tuple #[.slice (some ⟨w.heap.size, 0, none⟩) (tr M1).length P.length, .slice (some ⟨(w.heap.size+1), 0, none⟩) (tr M2).length Q.length, .int .i64 0])) (val P) (val Q) from
          ⟨hb6, _, _, _, tr M1, tr M2, rfl, Ans.trim (by rw [l5]; exact AX), Ans.trim (by rw [l6]; exact AY), .inr (by simp [Value.ownBlock]), .inr (by simp [Value.ownBlock]), .inl ⟨rfl, HTX.out.2.1, HTX.out.1, HTX.out.2.2.2, HTX.out.2.2.1, h1, h2⟩⟩)
        generalize (tr M1).length = m1 at *
        generalize (tr M2).length = m2 at *
        clear B5 L5 F5 O5 S5 B6 L6 F6 O6 S6 B6x AX AY hb6 hb5 P4 Q5 BX BY hb4 s5 s6 l5 l6 z1 z2 BB hw4 HA1 HA2 HB1 HAX HAY HTX
        go_wp2_with fail
        refine HX.mono ?_
        rintro e w7 ⟨rfl, hw⟩; subst hw
        clear HX
        go_wp2_with fail
        refine HY.mono ?_
        rintro e w8 ⟨rfl, hw⟩; subst hw
        clear HY
        go_wp2
        go_returns
        exact HR.out
      · have HY := manswer_no (.slice (some ⟨(w.heap.size+1), 0, none⟩) Q.length Q.length) M2 w6 (AY.arg (by omega)) (by rw [s6]; omega)
        clear B5 L5 F5 O5 S5 B6 L6 F6 O6 S6 B6x AX AY hb6 hb5 P4 Q5 BX BY hb4 s5 s6 l5 l6 z1 z2 BB hw4 HA1 HA2 HB1 HAX HAY HTX
        generalize (tr M1).length = m1 at *
        go_wp2_with fail
        refine HX.mono ?_
        rintro e w7 ⟨rfl, hw⟩; subst hw
        clear HX
        go_wp2_with fail
        refine HY.mono ?_
        rintro e w8 ⟨rfl, hw⟩; subst hw
        clear HY
        go_wp2
        go_returns
        exact ⟨HB6.out, _, _, _, [], [], rfl, Ans.nil _ _, Ans.nil _ _, .inl rfl, .inl rfl, .inr ⟨rfl, rfl, rfl, .inr (by omega)⟩⟩
    · have HX := manswer_no (.slice (some ⟨w.heap.size, 0, none⟩) P.length P.length) M1 w6 (AX.arg (by omega)) (by rw [s5]; omega)
      clear B5 L5 F5 O5 S5 B6 L6 F6 O6 S6 B6x AX AY hb6 hb5 P4 Q5 BX BY hb4 s5 s6 l5 l6 z1 z2 BB hw4 HA1 HA2 HB1 HAX HAY HTX
      go_wp2_with fail
      refine HX.mono ?_
      rintro e w7 ⟨rfl, hw⟩; subst hw
      clear HX
      go_wp2
      go_returns
      exact ⟨HB6.out, _, _, _, [], [], rfl, Ans.nil _ _, Ans.nil _ _, .inl rfl, .inl rfl, .inr ⟨rfl, rfl, rfl, .inl (by omega)⟩⟩
  · obtain ⟨w4, hw4⟩ : ∃ w4, w4 = ((w1.alloc (.cells (Array.replicate Q.length (lv 0)) 62)).alloc (.cells (Array.replicate P.length (lv 0)) 62)).drew := ⟨_, rfl⟩
    have BY : Blk w4 w.heap.size (List.replicate Q.length 0) := by rw [hw4, ← hz1]; exact (Blk.zeros w1 Q.length).alloc _
    have BX : Blk w4 (w.heap.size + 1) (List.replicate P.length 0) := by
      have := Blk.zeros (w1.alloc (.cells (Array.replicate Q.length (lv 0)) 62)) P.length
      rw [hw4, ← hz1]
      rwa [World.size_alloc] at this
    have BB : Hid (Below w.heap.size w1 w4) := hide (by rw [hw4, ← hz1]; exact (((Below.refl _ _).alloc (Nat.le_refl _) _).alloc (by simp) _).drew)
    clear hm1 hm2
    have hb4 : Below w.heap.size w w4 := HB1.out.trans (BB.out.mono (by omega))
    have hne : (w.heap.size+1) ≠ w.heap.size := by omega
    have z1 := sv_zeros P.length 0 P.length
    have z2 := sv_zeros Q.length 0 Q.length
    have P4 := HA1.out.below (w' := w4) (by rw [hz1]; exact BB.out)
    obtain ⟨w5, M1, hcp1, B5, L5, F5, O5, S5⟩ := copy_q (w.heap.size+1) 0 P.length P.length _ a1 c1 P w4 BX (limbs_replicate _) P4.limbs z1 (by simp) (Nat.le_refl _) P4.lies
    have hb5 : Below w.heap.size w1 w5 := BB.out.trans (F5.below (by omega) (by have := hb4.size; omega))
    have Q5 := HA2.out.below (w' := w5) (by rw [hz1]; exact hb5)
    obtain ⟨w6, M2, hcp2, B6, L6, F6, O6, S6⟩ := copy_q w.heap.size 0 Q.length Q.length _ a2 c2 Q w5 (F5.blk BY (Ne.symm hne)) (limbs_replicate _) Q5.limbs z2 (by simp) (Nat.le_refl _) Q5.lies
    have B6x := F6.blk B5 hne
    have hb6 : Below w.heap.size w w6 := HB1.out.trans (hb5.trans (F6.below (by omega) (by have := hb5.size; omega)))
    have l5 : M1.length = P.length := by rw [O5.len]; simp
    have l6 : M2.length = Q.length := by rw [O6.len]; simp
    have s5 : val M1 = val P := by rw [← S5, ← l5, sv_all]
    have s6 : val M2 = val Q := by rw [← S6, ← l6, sv_all]
    have AX := Ans.of_blk (base := w.heap.size) (zs := M1) (by omega) B6x List.take_length.symm (Nat.le_refl _) (by omega) L5
    have AY := Ans.of_blk (base := w.heap.size) (zs := M2) (by omega) B6 List.take_length.symm (Nat.le_refl _) (by omega) L6
    rw [l5] at AX
    rw [l6] at AY
    have HB6 := hide hb6
    have HAX := hide AX
    have HAY := hide AY
    have tX := tr_length_le M1
    have tY := tr_length_le M2
    have HTX := hide (And.intro (tr_tr M1) (And.intro ((val_tr M1).trans s5) (And.intro (tr_tr M2) ((val_tr M2).trans s6))))
    rw [hw4] at hcp1
    by_cases h1 : blen (val P) ≤ 67108864
    · have HX := manswer_yes (w.heap.size+1) P.length P.length w.heap.size M1 w6 AX (by omega) (by rw [s5]; exact h1)
      by_cases h2 : blen (val Q) ≤ 67108864
      · have HY := manswer_yes w.heap.size Q.length Q.length w.heap.size M2 w6 AY (by omega) (by rw [s6]; exact h2)
        have HR := hide (show Below w.heap.size w w6 ∧ Res2 w6 w.heap.size (.returned (.tuple #[.slice (some ⟨(w.heap.size+1), 0, none⟩) (tr M1).length P.length, .slice (some ⟨w.heap.size, 0, none⟩) (tr M2).length Q.length, .int .i64 0])) (val P) (val Q) from
          ⟨hb6, _, _, _, tr M1, tr M2, rfl, Ans.trim (by rw [l5]; exact AX), Ans.trim (by rw [l6]; exact AY), .inr (by simp [Value.ownBlock]), .inr (by simp [Value.ownBlock]), .inl ⟨rfl, HTX.out.2.1, HTX.out.1, HTX.out.2.2.2, HTX.out.2.2.1, h1, h2⟩⟩)
        generalize (tr M1).length = m1 at *
        generalize (tr M2).length = m2 at *
        clear B5 L5 F5 O5 S5 B6 L6 F6 O6 S6 B6x AX AY hb6 hb5 P4 Q5 BX BY hb4 s5 s6 l5 l6 z1 z2 BB hw4 HA1 HA2 HB1 HAX HAY HTX
        go_wp2_with fail
        refine HX.mono ?_
        rintro e w7 ⟨rfl, hw⟩; subst hw
        clear HX
        go_wp2_with fail
        refine HY.mono ?_
        rintro e w8 ⟨rfl, hw⟩; subst hw
        clear HY
        go_wp2
        go_returns
        exact HR.out
      · have HY := manswer_no (.slice (some ⟨w.heap.size, 0, none⟩) Q.length Q.length) M2 w6 (AY.arg (by omega)) (by rw [s6]; omega)
        clear B5 L5 F5 O5 S5 B6 L6 F6 O6 S6 B6x AX AY hb6 hb5 P4 Q5 BX BY hb4 s5 s6 l5 l6 z1 z2 BB hw4 HA1 HA2 HB1 HAX HAY HTX
        generalize (tr M1).length = m1 at *
        go_wp2_with fail
        refine HX.mono ?_
        rintro e w7 ⟨rfl, hw⟩; subst hw
        clear HX
        go_wp2_with fail
        refine HY.mono ?_
        rintro e w8 ⟨rfl, hw⟩; subst hw
        clear HY
        go_wp2
        go_returns
        exact ⟨HB6.out, _, _, _, [], [], rfl, Ans.nil _ _, Ans.nil _ _, .inl rfl, .inl rfl, .inr ⟨rfl, rfl, rfl, .inr (by omega)⟩⟩
    · have HX := manswer_no (.slice (some ⟨(w.heap.size+1), 0, none⟩) P.length P.length) M1 w6 (AX.arg (by omega)) (by rw [s5]; omega)
      clear B5 L5 F5 O5 S5 B6 L6 F6 O6 S6 B6x AX AY hb6 hb5 P4 Q5 BX BY hb4 s5 s6 l5 l6 z1 z2 BB hw4 HA1 HA2 HB1 HAX HAY HTX
      go_wp2_with fail
      refine HX.mono ?_
      rintro e w7 ⟨rfl, hw⟩; subst hw
      clear HX
      go_wp2
      go_returns
      exact ⟨HB6.out, _, _, _, [], [], rfl, Ans.nil _ _, Ans.nil _ _, .inl rfl, .inl rfl, .inr ⟨rfl, rfl, rfl, .inl (by omega)⟩⟩

end Go.Proofs.YtmloigbacfllhabDoor
