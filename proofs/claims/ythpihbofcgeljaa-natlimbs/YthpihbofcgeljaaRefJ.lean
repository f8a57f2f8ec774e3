/- The reference's numbers: Div. -/
import Derived.Test.YthpihbofcgeljaaRefI
import Derived.Test.YthpihbofcgeljaaP36
namespace Go.Proofs.Ythpihbofcgeljaa
open Go.RowKit
open Lm
attribute [local go_sem ↓] Go.wp_at_zero Go.wp_at_succ

theorem bstep {a b c : World} (h : Below a.heap.size a b) (k : Below b.heap.size b c) : Below a.heap.size a c := h.trans (k.mono h.size)

theorem Below.one (w : World) (o : Obj) : Below w.heap.size w (w.alloc o) := (Below.refl _ _).alloc (Nat.le_refl _) _

theorem Blk.kept {w w' : World} {b : Nat} {xs : List Nat} (h : Blk w b xs) (hb : Below w.heap.size w w') : Blk w' b xs := by
  unfold Blk
  rw [hb.block b h.lt]; exact h

theorem Arg.one (w : World) (z : Nat) (hz : z < 18446744073709551616) : Arg (w.alloc (.cells #[.int .u64 (z : Int)] 42)) (.slice (some ⟨w.heap.size, 0, none⟩) 1 1) [z] := by
  have hb : Blk (w.alloc (.cells #[.int .u64 (z : Int)] 42)) w.heap.size [z] := by
    unfold Blk
    rw [heap_alloc_new]
    rfl
  exact ⟨⟨_, _, rfl, Nat.le_refl _, by simp, .inr ⟨_, 0, rfl, fun k hk => by rw [Nat.zero_add]; exact hb.cell k hk⟩⟩, by intro y hy; simp at hy; omega, by simp, fun n c e => by cases e⟩

set_option maxRecDepth 20000 in
set_option maxHeartbeats 1000000 in
theorem rdiv_any (v1 v2 : Value) (x y : Nat) (w : World) (h1 : Num w v1 x) (h2 : Num w v2 y) (hy : y ≠ 0) (f1 : blen x ≤ 1125899906809856) (f2 : blen y ≤ 1125899906000000) :
    Calls Try.prog 29 #[v1, v2] w fun e w' => (∃ vq vr, e = .returned (.tuple #[vq, vr]) ∧ Num w' vq (x / y) ∧ Num w' vr (x % y)) ∧ Below w.heap.size w w' := by
  obtain ⟨X, A1, hX, hXt, rfl, _⟩ := h1
  have lX := num_len hX hXt 35184372087808 (by omega)
  obtain ⟨a1, c1, rfl, hc1, hm1, L1⟩ := A1.form
  obtain ⟨i0, hi, hz0, hz1, hz2⟩ := info_parts Try.infoU
  have NY := hide h2
  have F2 := hide f2
  have HY0 := hide hy
  clear f1 f2 hXt A1 h2 hy
  go_enter Try.func29, Try.ntmps29
  go_wp2_with (at_make; refine wpList_make_full _ rfl _ _ 26 rfl w.heap.size 42 i0 (.int .u64 0) 1 Try.underlying26 hi hz0 hz1 .i64 .i64 _ _ X.length rfl rfl (by omega) (by omega) (by rw [hz2]; omega) (by unfold maxLen; omega) (Nat.le_refl _) ?_; intro w1 hown hgrow)
  have hb1 := Blk.made hown
  have hbel : Below w.heap.size w w1 := (Below.refl _ _).grown hgrow (Nat.le_refl _) (fun k hk => by cases hk)
  clear hown hgrow hi hz0 hz1 hz2
  go_loopw [6, 8] (fun r i wr => ∃ (k R : Nat) (out : List Nat), k ≤ X.length ∧ i = .int .i64 ((k : Int) - 1) ∧ Num wr r R ∧ New (w.heap.size + 1) r ∧ R < y ∧ out.length = X.length ∧ Digs 4294967296 out ∧ Blk wr w.heap.size out ∧ Below w.heap.size w wr ∧
      vb 4294967296 (X.drop k) = vb 4294967296 (out.drop k) * y + R) (fun _ i _ => (intOf i + 1).toNat)
  case atStart => exact ⟨X.length, 0, _, Nat.le_refl _, rfl, Num.nil _, New.nil _ _ _, by have := HY0.out; omega, by simp, digs_replicate (by omega) _, hb1, hbel, by simp [vb]⟩
  case round =>
    obtain ⟨k, R, out, hk, rfl, hnr, hnw0, hR, hlen, hdo, hblk, hbl, hval⟩ := hrel
    clear hb1 hbel
    by_cases hk0 : k = 0
    · subst hk0
      have hve := div_end _ y _ R hval hR
      rw [List.drop_zero, List.drop_zero] at hve
      have hA := Ans.of_blk (base := w.heap.size) (zs := out) (Nat.le_refl _) hblk List.take_length.symm (Nat.le_refl _) (by omega) (digs_limbs hdo)
      have H := norm_any _ _ _ (hA.arg (by omega)) hdo (by omega)
      rw [hlen, hve.1] at H
      have HR : Hid (Num wr u6 (vb 4294967296 X % y)) := hide (by rw [← hve.2]; exact hnr)
      have HL := hide hbl
      clear hval hblk hbl hX hA hve L1 hnr hnw0
      go_wp2_with fail
      refine H.mono ?_
      rintro e w2 ⟨⟨v', rfl, hnum⟩, rfl⟩
      have HN := hide hnum
      clear hnum H
      go_wp2
      go_ret2
      exact ⟨⟨v', u6, rfl, HN.out, HR.out⟩, HL.out⟩
    · obtain ⟨j, rfl⟩ : ∃ j, k = j + 1 := ⟨k - 1, by omega⟩
      rcases L1.below hbl with h0 | ⟨b, off, rfl, hcell⟩
      · rw [h0] at hk; simp at hk
      · have hck := hcell j (by omega)
        have hbw : b < wr.heap.size := Lies.block (zs := X) (.inr ⟨b, off, rfl, hcell⟩) (by omega)
        have ej : (((j + 1 : Nat) : Int) - 1) = (j : Int) := by omega
        rw [ej]
        have z1 := dig_lt (by omega) hX j
        have HST := hide (fun q R2 hq => rdiv_step X out j y R q R2 (by omega) (by omega) hval hq)
        have HRL := hide (rest_lt y R (X.getD j 0) hR z1)
        have hfR : blen R + 32 ≤ 1125899906809856 := by have := blen_lt_mono hR; have := F2.out; omega
        generalize X.getD j 0 = x at *
        have HC := hide (fun (u : World) (hu : Below wr.heap.size wr u) => (show u.cell? ⟨b, off + j, none⟩ = some (.int .u64 (x : Int)) by rw [hu.cell (p := ⟨b, off + j, none⟩) hbw]; exact hck))
        have D0 : Hid (Below wr.heap.size wr wr.drew) := hide ((Below.refl _ _).drew)
        obtain ⟨RS, hRS⟩ : ∃ RS, RS = R * 2 ^ 32 := ⟨_, rfl⟩
        have HSH := hide (fun (u : World) (hu : Below wr.heap.size wr u) => (by have h := rshl_any _ R 32 u (hnr.below hu) hfR; rw [← hRS] at h; exact h : Calls Try.prog 25 #[u6, .int .i64 32] u fun e w' => (∃ v', e = .returned v' ∧ Num w' v' RS) ∧ Below u.heap.size u w'))
        have ex : vb 4294967296 [x] = x := by simp [vb]
        have HNO := hide (fun (u : World) (v : Value) (hv : Arg u v [x]) => (by have h := norm_any v [x] u hv (by intro z hz; simp at hz; omega) (by simp); rw [ex] at h; exact h : Calls Try.prog 38 #[v] u fun e w' => (∃ v', e = .returned v' ∧ Num u v' x) ∧ w' = u))
        have hfA : blen RS ≤ 1125899906809856 := by rw [hRS]; have := blen_shift R 32; omega
        have hfB : blen x ≤ 1125899906809856 := by have := (blen_le_iff x 32).2 (by omega); omega
        have HAD := hide (fun (u : World) (va vb' : Value) (na : Num u va RS) (nb : Num u vb' x) => radd_new va vb' _ _ u na nb hfA hfB)
        have HB := hide hblk
        have HL := hide hbl
        rw [← hRS] at HST HRL
        have HRS := hide hRS
        clear hRS
        have hx18 : x < 18446744073709551616 := by omega
        have hi1 : (0 : Int) ≤ (j : Int) := by omega
        have hi2 : (j : Int) < (X.length : Int) := by omega
        have hnew := World.new_ne wr ⟨b, off + j, none⟩ hck
        clear hval hblk hbl hcell hnr hnw0 hX L1 ex hfA hfB
        go_wp2
        go_region_held3 (fun w' => w'.cell? ⟨b, off + j, none⟩ = some (.int .u64 x)) (go_keep) (first
          | (go_at_call 25; refine (HSH.out _ (by first | exact D0.out | exact bstep D0.out (Below.one _ _))).mono ?_; rintro e u1 ⟨⟨v1', rfl, N1⟩, b1⟩; (first | (have BU := bstep D0.out b1) | (have BU := bstep (bstep D0.out (Below.one _ _)) b1)); (have hkS := HC.out u1 BU); (try replace N2 := N2.below b1))
          | (go_at_call 38; refine (HNO.out _ _ (by first | exact Arg.one u1 x hx18 | exact Arg.one wr.drew x hx18 | exact (Arg.one wr.drew x hx18).below b1)).mono ?_; rintro e u2 ⟨⟨v2', rfl, N2⟩, hw⟩; subst hw)
          | (go_at_call 11; refine (HAD.out _ _ _ (by first | exact N1 | exact N1.below (Below.one _ _)) N2).mono ?_; rintro e u3 ⟨⟨v3, rfl, N3, nw3⟩, b3⟩; (first | (have B3 := bstep BU b3) | (have B3 := bstep (bstep BU (Below.one _ _)) b3)); (have hkS3 := HC.out u3 B3)))
        all_goals
          have N3' := hide N3
          have hsz3 : w.heap.size < wr.heap.size := HB.out.lt
          have NW3 : Hid (New (w.heap.size + 1) v3) := hide (nw3.mono (by first | (have := BU.size; omega) | (have := BU.size; simp; omega)))
          clear nw3 hsz3
          have BW := hide (HL.out.trans (B3.mono HL.out.size))
          have HB3 := hide (HB.out.kept B3)
          clear N1 N2 b1 b3 BU hkS hkS3 N3 B3 HSH HNO HAD HC D0 HB HL hck hnew HRS hfR hx18 hi2 hi1
          obtain ⟨R', hR'⟩ : ∃ R', R' = RS + x := ⟨_, rfl⟩
          rw [← hR'] at N3' HRL HST
          clear hR'
          have HCMP := rcmp_any v3 v2 R' y u3 N3'.out (NY.out.below BW.out)
          have hi1 : (0 : Int) ≤ (j : Int) := by omega
          have hi2 : (j : Int) < (X.length : Int) := by omega
          by_cases hlt : R' < y
          · have HST2 := hide (HST.out 0 R' (by omega))
            have hc : cmpN R' y = -1 := cmpN_lt hlt
            rw [hc] at HCMP
            go_wp2_with fail
            refine HCMP.mono ?_
            rintro e u4 ⟨rfl, hs⟩
            have BW4 := hide (BW.out.trans ((hs.below u3.heap.size).mono BW.out.size))
            have HN4 := hide (N3'.out.below (hs.below _))
            have hb4 := HB3.out.kept (hs.below _)
            have hfr := hb4.free j
            have hco := hb4.cell j (by omega)
            generalize out.getD j 0 = o at *
            have HB4 := hide hb4
            have HLT := hide hlt
            clear hb4 hs HCMP hc hlt HB3 BW N3' HST HRL
            go_wp2
            go_roundw
            case rel => exact ⟨j, R', out.set j 0, by omega, rfl, HN4.out.store NW3.out, NW3.out, HLT.out, by simp; omega, digs_set hdo _ _ (by omega), HB4.out.set j 0, BW4.out.setCell (Nat.le_refl _) _, HST2.out⟩
            case measure => simp [intOf]
          · have hd : decide (cmpN R' y ≥ 0) = true := by
              unfold cmpN; rw [if_neg hlt]; split <;> decide
            have hd2 : decide (0 ≤ cmpN R' y) = true := hd
            have HGE := hide hlt
            go_wp2_with fail
            refine HCMP.mono ?_
            rintro e u4 ⟨rfl, hs⟩
            generalize cmpN R' y = cc at *
            have BW4 := hide (BW.out.trans ((hs.below u3.heap.size).mono BW.out.size))
            have HN4 := hide (N3'.out.below (hs.below _))
            have HB4 := hide (HB3.out.kept (hs.below _))
            clear hs HCMP hlt HB3 BW N3'
            go_wp2
            go_loopw [6, 9, 10] (fun r q s wr2 => ∃ (t Q R2 : Nat), t ≤ 32 ∧ s = .int .i64 ((t : Int) - 1) ∧ q = .int .u64 Q ∧ Num wr2 r R2 ∧ New (w.heap.size + 1) r ∧ R' = Q * y + R2 ∧ R2 < y * 2 ^ t ∧ Q + 2 ^ t ≤ 4294967296 ∧ Blk wr2 w.heap.size out ∧ Below w.heap.size w wr2) (fun _ _ s _ => (intOf s + 1).toNat)
            case atStart => exact ⟨32, 0, R', Nat.le_refl _, rfl, rfl, HN4.out, NW3.out, by omega, HRL.out, by decide, HB4.out, BW4.out⟩
            case round =>
              obtain ⟨t, Q, R2, ht, rfl, rfl, hn2, hnw2, hsum, hR2, hQ, hblk2, hbl2⟩ := hrel
              clear HN4 HB4 BW4 hd hd2
              have HSUM := hide hsum
              have HR2 := hide hR2
              have HQ := hide hQ
              have HB5 := hide hblk2
              have HL5 := hide hbl2
              have HN5 := hide hn2
              have NW5 := hide hnw2
              clear hnw2 NW3
              clear hsum hR2 hQ
              by_cases ht0 : t = 0
              · subst ht0
                have HST2 := hide (HST.out Q R2 HSUM.out)
                have bQ : Q < 4294967296 := by have := HQ.out; rw [Nat.pow_zero] at this; omega
                have HLT : Hid (R2 < y) := hide (by have := HR2.out; rwa [Nat.pow_zero, Nat.mul_one] at this)
                have hfr := hblk2.free j
                have hco := hblk2.cell j (by omega)
                generalize out.getD j 0 = o at *
                clear hblk2 hbl2 hn2 HST HRL HSUM HQ HR2
                go_wp2
                go_roundw
                case rel => exact ⟨j, R2, out.set j Q, by omega, rfl, HN5.out.store NW5.out, NW5.out, HLT.out, by simp; omega, digs_set hdo _ _ bQ, HB5.out.set j Q, HL5.out.setCell (Nat.le_refl _) _, HST2.out⟩
                case measure => simp [intOf]
              · obtain ⟨m, rfl⟩ : ∃ m, t = m + 1 := ⟨t - 1, by omega⟩
                have em : (((m + 1 : Nat) : Int) - 1) = (m : Int) := by omega
                rw [em]
                have HS := rshl_any v2 y m wr (NY.out.below hbl2) (by have := F2.out; omega)
                have hfR2 : blen R2 ≤ 1125899906809856 := by
                  have h1 := blen_lt_mono HR2.out
                  have h2 := blen_shift y (m + 1)
                  have := F2.out
                  omega
                clear hblk2 hbl2 hn2
                go_wp2_with fail
                refine HS.mono ?_
                rintro e u5 ⟨⟨vx, rfl, Nx⟩, hb5⟩
                have HL6 := hide (HL5.out.trans (hb5.mono HL5.out.size))
                have HB6 := hide (HB5.out.kept hb5)
                have HN6 := hide (HN5.out.below hb5)
                have HCM := rcmp_any u6 vx R2 (y * 2 ^ m) u5 HN6.out Nx
                clear HS hb5 HL5 HB5 HN5
                by_cases hge : y * 2 ^ m ≤ R2
                · have hd : decide (cmpN R2 (y * 2 ^ m) ≥ 0) = true := by
                    unfold cmpN; rw [if_neg (by omega)]; split <;> decide
                  have hd2 : decide (0 ≤ cmpN R2 (y * 2 ^ m)) = true := hd
                  have HSUM2 := hide (half_sum y R' R2 Q m HSUM.out hge)
                  have HR3 := hide (half_down y R2 m HR2.out hge)
                  have HSB := fun (u : World) (ha : Num u u6 R2) (hb : Num u vx (y * 2 ^ m)) => rsub_new u6 vx R2 (y * 2 ^ m) u ha hb hge hfR2
                  have HQ2 : Hid (Q + 2 ^ m + 2 ^ m ≤ 4294967296) := hide (by have := HQ.out; rw [Nat.pow_succ] at this; omega)
                  have hP0 : 0 < 2 ^ m := Nat.two_pow_pos m
                  have HN7 := hide Nx
                  generalize cmpN R2 (y * 2 ^ m) = cc at *
                  generalize hYm : y * 2 ^ m = Y2 at *
                  have HYm := hide hYm
                  clear hYm
                  go_wp2_with fail
                  refine HCM.mono ?_
                  rintro e u7 ⟨rfl, hs⟩
                  have HL7 := hide (HL6.out.trans ((hs.below u5.heap.size).mono HL6.out.size))
                  have HB7 := hide (HB6.out.kept (hs.below _))
                  have HS7 := HSB u7 (HN6.out.below (hs.below _)) (HN7.out.below (hs.below _))
                  clear HCM hs HL6 HB6 HN6 HN7 Nx HSB
                  go_wp2_with fail
                  refine HS7.mono ?_
                  rintro e u8 ⟨⟨vr, rfl, Nr, nwr⟩, hb8⟩
                  have HL8 := hide (HL7.out.trans (hb8.mono HL7.out.size))
                  have HB8 := hide (HB7.out.kept hb8)
                  have HN8 := hide Nr
                  have NW8 : Hid (New (w.heap.size + 1) vr) := hide (nwr.mono HB7.out.lt)
                  clear HS7 hb8 Nr nwr HL7 HB7 hge hd hd2
                  obtain ⟨P, hP⟩ : ∃ P, P = 2 ^ m := ⟨_, rfl⟩
                  have HPm := hide hP
                  have eP : (2 : Int) ^ m = (P : Int) := by rw [hP]; push_cast; rfl
                  have bP : Q + P + P ≤ 4294967296 := by rw [hP]; exact HQ2.out
                  have bP0 : 0 < P := by rw [hP]; exact hP0
                  rw [← hP] at HSUM2
                  clear hP hP0 HQ2
                  have eQ : (Q : Int) + (P : Int) = ((Q + P : Nat) : Int) := by omega
                  generalize Q + P = Q2 at *
                  have wP : IntKind.u64.wrap (P : Int) = (P : Int) := by rw [IntKind.wrap_u64]; omega
                  have wQ : IntKind.u64.wrap (Q2 : Int) = (Q2 : Int) := by rw [IntKind.wrap_u64]; omega
                  go_wp2
                  go_roundw
                  case rel =>
                    refine ⟨m, Q2, R2 - Y2, by omega, rfl, rfl, HN8.out, NW8.out, HSUM2.out, ?_, ?_, HB8.out, HL8.out⟩
                    · rw [HYm.out]; exact HR3.out
                    · rw [← HPm.out]; exact bP
                  case measure => simp [intOf]
                · have hlt2 : R2 < y * 2 ^ m := by omega
                  have hc : cmpN R2 (y * 2 ^ m) = -1 := cmpN_lt hlt2
                  rw [hc] at HCM
                  have HLT2 := hide hlt2
                  have HQ2 : Hid (Q + 2 ^ m ≤ 4294967296) := hide (by have := HQ.out; rw [Nat.pow_succ] at this; omega)
                  clear hlt2 hc hge Nx
                  go_wp2_with fail
                  refine HCM.mono ?_
                  rintro e u7 ⟨rfl, hs⟩
                  have HL7 := hide (HL6.out.trans ((hs.below u5.heap.size).mono HL6.out.size))
                  have HB7 := hide (HB6.out.kept (hs.below _))
                  have HN7 := hide (HN6.out.below (hs.below _))
                  clear HCM hs HL6 HB6 HN6
                  go_wp2
                  go_roundw
                  case rel => exact ⟨m, Q, R2, by omega, rfl, rfl, HN7.out, NW5.out, HSUM.out, HLT2.out, HQ2.out, HB7.out, HL7.out⟩
                  case measure => simp [intOf]

end Go.Proofs.Ythpihbofcgeljaa
