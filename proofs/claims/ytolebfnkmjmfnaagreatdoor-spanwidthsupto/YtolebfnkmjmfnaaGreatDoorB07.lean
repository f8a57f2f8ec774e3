/- The reference's numbers: Div. -/
import Derived.Test.YtolebfnkmjmfnaaGreatDoorB05
import Derived.Test.YtolebfnkmjmfnaaGreatDoorB06
import Derived.Test.YtolebfnkmjmfnaaGreatDoorB03
import Derived.Deep.CutBlock
import Derived.Deep.DeepCutAuto
import Derived.Test.YtolebfnkmjmfnaaGreatDoorB02
namespace Go.Proofs.YtolebfnkmjmfnaaGreatDoor
open Go.RowKit
open Lm
attribute [local go_sem ↓] Go.wp_at_zero Go.wp_at_succ

theorem bstep {a b c : World} (h : Below a.heap.size a b) (k : Below b.heap.size b c) : Below a.heap.size a c := h.trans (k.mono h.size)

theorem Below.one (w : World) (o : Obj) : Below w.heap.size w (w.alloc o) := (Below.refl _ _).alloc (Nat.le_refl _) _

theorem Blk.kept {w w' : World} {b : Nat} {xs : List Nat} (h : Blk w b xs) (hb : Below w.heap.size w w') : Blk w' b xs := by
  unfold Blk
  rw [hb.block b h.lt]; exact h

theorem Arg.one (w : World) (z : Nat) (hz : z < 18446744073709551616) : Arg (w.alloc (.cells #[.int .u64 (z : Int)] 101)) (.slice (some ⟨w.heap.size, 0, none⟩) 1 1) [z] := by
  have hb : Blk (w.alloc (.cells #[.int .u64 (z : Int)] 101)) w.heap.size [z] := by
    unfold Blk
    rw [heap_alloc_new]
    rfl
  exact ⟨⟨_, _, rfl, Nat.le_refl _, by simp, .inr ⟨_, 0, rfl, fun k hk => by rw [Nat.zero_add]; exact hb.cell k hk⟩⟩, by intro y hy; simp at hy; omega, by simp, fun n c e => by cases e⟩

set_option maxRecDepth 20000 in
set_option maxHeartbeats 1000000 in
theorem rdiv_any (v1 v2 : Value) (x y : Nat) (w : World) (h1 : Num w v1 x) (h2 : Num w v2 y) (hy : y ≠ 0) (f1 : blen x ≤ 1125899906840000) (f2 : blen y ≤ 1125899906810000) :
    Calls Tryz.prog 74 #[v1, v2] w fun e w' => (∃ vq vr, e = .returned (.tuple #[vq, vr]) ∧ Num w' vq (x / y) ∧ Num w' vr (x % y)) ∧ Below w.heap.size w w' := by
  obtain ⟨X, A1, hX, hXt, rfl, _⟩ := h1
  have lX := num_len hX hXt 35184372088750 (by omega)
  obtain ⟨a1, c1, rfl, hc1, hm1, L1⟩ := A1.form
  obtain ⟨i0, hi, hz0, hz1, hz2⟩ := info_parts Tryz.infoU
  have NY := hide h2
  have F2 := hide f2
  have HY0 := hide hy
  clear f1 f2 hXt A1 h2 hy
  go_enter Tryz.func74, Tryz.ntmps74
  go_wp2_with (at_make; refine wpList_make_full _ rfl _ _ 37 rfl w.heap.size 101 i0 (.int .u64 0) 1 Tryz.underlying37 hi hz0 hz1 .i64 .i64 _ _ X.length rfl rfl (by omega) (by omega) (by rw [hz2]; omega) (by unfold maxLen; omega) (Nat.le_refl _) ?_; intro w1 hown hgrow)
  have hb1 := Blk.made hown
  have hbel : Below w.heap.size w w1 := (Below.refl _ _).grown hgrow (Nat.le_refl _) (fun k hk => by cases hk)
  clear hown hgrow hi hz0 hz1 hz2
  go_loopw [6, 8] (fun r i wr => ∃ (k R : Nat) (out : List Nat), k ≤ X.length ∧ i = .int .i64 ((k : Int) - 1) ∧ Num wr r R ∧ New (w.heap.size + 1) r ∧ R < y ∧ out.length = X.length ∧ Digs 4294967296 out ∧ Blk wr w.heap.size out ∧ Below w.heap.size w wr ∧
      vb 4294967296 (X.drop k) = vb 4294967296 (out.drop k) * y + R) (fun _ i _ => (intOf i + 1).toNat)
  case atStart => exact ⟨X.length, 0, _, Nat.le_refl _, rfl, Num.nil _, New.nil _ _ _, by have := HY0.out; omega, by simp, digs_replicate (by omega) _, hb1, hbel, by simp [vb]⟩
  case round =>
    obtain ⟨k, R, out, hk, rfl, hnr, hnw0, hR, hlen, hdo, hblk, hbl, hval⟩ := hrel
    clear hb1 hbel
    by_cases hk0 : k = 0
    · subst hk0
      have hve := div_end _ y _ R hval hR
      rw [List.drop_zero, List.drop_zero] at hve
      have hA := Ans.of_blk (base := w.heap.size) (zs := out) (Nat.le_refl _) hblk List.take_length.symm (Nat.le_refl _) (by omega) (digs_limbs hdo)
      have H := norm_any _ _ _ (hA.arg (by omega)) hdo (by omega)
      rw [hlen, hve.1] at H
      have HR : Hid (Num wr u6 (vb 4294967296 X % y)) := hide (by rw [← hve.2]; exact hnr)
      have HL := hide hbl
      clear hval hblk hbl hX hA hve L1 hnr hnw0
      go_wp2_with fail
      refine H.mono ?_
      rintro e w2 ⟨⟨v', rfl, hnum⟩, rfl⟩
      have HN := hide hnum
      clear hnum H
      go_wp2
      go_ret2
      exact ⟨⟨v', u6, rfl, HN.out, HR.out⟩, HL.out⟩
    · obtain ⟨j, rfl⟩ : ∃ j, k = j + 1 := ⟨k - 1, by omega⟩
      rcases L1.below hbl with h0 | ⟨b, off, rfl, hcell⟩
      · rw [h0] at hk; simp at hk
      · have hck := hcell j (by omega)
        have hbw : b < wr.heap.size := Lies.block (zs := X) (.inr ⟨b, off, rfl, hcell⟩) (by omega)
        have ej : (((j + 1 : Nat) : Int) - 1) = (j : Int) := by omega
        rw [ej]
        have z1 := dig_lt (by omega) hX j
        have HST := hide (fun q R2 hq => rdiv_step X out j y R q R2 (by omega) (by omega) hval hq)
        have HRL := hide (rest_lt y R (X.getD j 0) hR z1)
        have hfR : blen R + 32 ≤ 1125899906840000 := by have := blen_lt_mono hR; have := F2.out; omega
        generalize X.getD j 0 = x at *
        have HC := hide (fun (u : World) (hu : Below wr.heap.size wr u) => (show u.cell? ⟨b, off + j, none⟩ = some (.int .u64 (x : Int)) by rw [hu.cell (p := ⟨b, off + j, none⟩) hbw]; exact hck))
        have D0 : Hid (Below wr.heap.size wr wr.drew) := hide ((Below.refl _ _).drew)
        obtain ⟨RS, hRS⟩ : ∃ RS, RS = R * 2 ^ 32 := ⟨_, rfl⟩
        have HSH := hide (fun (u : World) (hu : Below wr.heap.size wr u) => (by have h := rshl_any _ R 32 u (hnr.below hu) hfR; rw [← hRS] at h; exact h : Calls Tryz.prog 45 #[u6, .int .i64 32] u fun e w' => (∃ v', e = .returned v' ∧ Num w' v' RS) ∧ Below u.heap.size u w'))
        have ex : vb 4294967296 [x] = x := by simp [vb]
        have HNO := hide (fun (u : World) (v : Value) (hv : Arg u v [x]) => (by have h := norm_any v [x] u hv (by intro z hz; simp at hz; omega) (by simp); rw [ex] at h; exact h : Calls Tryz.prog 72 #[v] u fun e w' => (∃ v', e = .returned v' ∧ Num u v' x) ∧ w' = u))
        have hfA : blen RS ≤ 1125899906840000 := by rw [hRS]; have := blen_shift R 32; omega
        have hfB : blen x ≤ 1125899906840000 := by have := (blen_le_iff x 32).2 (by omega); omega
        have HAD := hide (fun (u : World) (va vb' : Value) (na : Num u va RS) (nb : Num u vb' x) => radd_new va vb' _ _ u na nb hfA hfB)
        have HB := hide hblk
        have HL := hide hbl
        rw [← hRS] at HST HRL
        have HRS := hide hRS
        clear hRS
        have hx18 : x < 18446744073709551616 := by omega
        have hi1 : (0 : Int) ≤ (j : Int) := by omega
        have hi2 : (j : Int) < (X.length : Int) := by omega
        have hnew := World.new_ne wr ⟨b, off + j, none⟩ hck
        clear hval hblk hbl hcell hnr hnw0 hX L1 ex hfA hfB
        go_wp2
        go_region_held3 (fun w' => w'.cell? ⟨b, off + j, none⟩ = some (.int .u64 x)) (go_keep) (first
          | (go_at_call 45; refine (HSH.out _ (by first | exact D0.out | exact bstep D0.out (Below.one _ _))).mono ?_; rintro e u1 ⟨⟨v1', rfl, N1⟩, b1⟩; (first | (have BU := bstep D0.out b1) | (have BU := bstep (bstep D0.out (Below.one _ _)) b1)); (have hkS := HC.out u1 BU); (try replace N2 := N2.below b1))
          | (go_at_call 72; refine (HNO.out _ _ (by first | exact Arg.one u1 x hx18 | exact Arg.one wr.drew x hx18 | exact (Arg.one wr.drew x hx18).below b1)).mono ?_; rintro e u2 ⟨⟨v2', rfl, N2⟩, hw⟩; subst hw)
          | (go_at_call 97; refine (HAD.out _ _ _ (by first | exact N1 | exact N1.below (Below.one _ _)) N2).mono ?_; rintro e u3 ⟨⟨v3, rfl, N3, nw3⟩, b3⟩; (first | (have B3 := bstep BU b3) | (have B3 := bstep (bstep BU (Below.one _ _)) b3)); (have hkS3 := HC.out u3 B3)))
        all_goals
          have N3' := hide N3
          have hsz3 : w.heap.size < wr.heap.size := HB.out.lt
          have NW3 : Hid (New (w.heap.size + 1) v3) := hide (nw3.mono (by first | (have := BU.size; omega) | (have := BU.size; simp; omega)))
          clear nw3 hsz3
          have BW := hide (HL.out.trans (B3.mono HL.out.size))
          have HB3 := hide (HB.out.kept B3)
          clear N1 N2 b1 b3 BU hkS hkS3 N3 B3 HSH HNO HAD HC D0 HB HL hck hnew HRS hfR hx18 hi2 hi1
          obtain ⟨R', hR'⟩ : ∃ R', R' = RS + x := ⟨_, rfl⟩
          rw [← hR'] at N3' HRL HST
          clear hR'
          have HCMP := rcmp_any v3 v2 R' y u3 N3'.out (NY.out.below BW.out)
          have hi1 : (0 : Int) ≤ (j : Int) := by omega
          have hi2 : (j : Int) < (X.length : Int) := by omega
          by_cases hlt : R' < y
          · have HST2 := hide (HST.out 0 R' (by omega))
            have hc : cmpN R' y = -1 := cmpN_lt hlt
            rw [hc] at HCMP
            go_wp2_with fail
            refine HCMP.mono ?_
            rintro e u4 ⟨rfl, hs⟩
            have BW4 := hide (BW.out.trans ((hs.below u3.heap.size).mono BW.out.size))
            have HN4 := hide (N3'.out.below (hs.below _))
            have hb4 := HB3.out.kept (hs.below _)
            have hfr := hb4.free j
            have hco := hb4.cell j (by omega)
            generalize out.getD j 0 = o at *
            have HB4 := hide hb4
            have HLT := hide hlt
            clear hb4 hs HCMP hc hlt HB3 BW N3' HST HRL
            go_wp2
            go_roundw
            case rel => exact ⟨j, R', out.set j 0, by omega, rfl, HN4.out.store NW3.out, NW3.out, HLT.out, by simp; omega, digs_set hdo _ _ (by omega), HB4.out.set j 0, BW4.out.setCell (Nat.le_refl _) _, HST2.out⟩
            case measure => simp [intOf]
          · have hd : decide (cmpN R' y ≥ 0) = true := by
              unfold cmpN; rw [if_neg hlt]; split <;> decide
            have hd2 : decide (0 ≤ cmpN R' y) = true := hd
            have HGE := hide hlt
            go_wp2_with fail
            refine HCMP.mono ?_
            rintro e u4 ⟨rfl, hs⟩
            generalize cmpN R' y = cc at *
            have BW4 := hide (BW.out.trans ((hs.below u3.heap.size).mono BW.out.size))
            have HN4 := hide (N3'.out.below (hs.below _))
            have HB4 := hide (HB3.out.kept (hs.below _))
            clear hs HCMP hlt HB3 BW N3'
            go_wp2
            go_loopw [6, 9, 10] (fun r q s wr2 => ∃ (t Q R2 : Nat), t ≤ 32 ∧ s = .int .i64 ((t : Int) - 1) ∧ q = .int .u64 Q ∧ Num wr2 r R2 ∧ New (w.heap.size + 1) r ∧ R' = Q * y + R2 ∧ R2 < y * 2 ^ t ∧ Q + 2 ^ t ≤ 4294967296 ∧ Blk wr2 w.heap.size out ∧ Below w.heap.size w wr2) (fun _ _ s _ => (intOf s + 1).toNat)
            case atStart => exact ⟨32, 0, R', Nat.le_refl _, rfl, rfl, HN4.out, NW3.out, by omega, HRL.out, by decide, HB4.out, BW4.out⟩
            case round =>
              obtain ⟨t, Q, R2, ht, rfl, rfl, hn2, hnw2, hsum, hR2, hQ, hblk2, hbl2⟩ := hrel
              clear HN4 HB4 BW4 hd hd2
              have HSUM := hide hsum
              have HR2 := hide hR2
              have HQ := hide hQ
              have HB5 := hide hblk2
              have HL5 := hide hbl2
              have HN5 := hide hn2
              have NW5 := hide hnw2
              clear hnw2 NW3
              clear hsum hR2 hQ
              by_cases ht0 : t = 0
              · subst ht0
                have HST2 := hide (HST.out Q R2 HSUM.out)
                have bQ : Q < 4294967296 := by have := HQ.out; rw [Nat.pow_zero] at this; omega
                have HLT : Hid (R2 < y) := hide (by have := HR2.out; rwa [Nat.pow_zero, Nat.mul_one] at this)
                have hfr := hblk2.free j
                have hco := hblk2.cell j (by omega)
                generalize out.getD j 0 = o at *
                clear hblk2 hbl2 hn2 HST HRL HSUM HQ HR2
                go_wp2
                go_roundw
                case rel => exact ⟨j, R2, out.set j Q, by omega, rfl, HN5.out.store NW5.out, NW5.out, HLT.out, by simp; omega, digs_set hdo _ _ bQ, HB5.out.set j Q, HL5.out.setCell (Nat.le_refl _) _, HST2.out⟩
                case measure => simp [intOf]
              · obtain ⟨m, rfl⟩ : ∃ m, t = m + 1 := ⟨t - 1, by omega⟩
                have em : (((m + 1 : Nat) : Int) - 1) = (m : Int) := by omega
                rw [em]
                have HS := rshl_any v2 y m wr (NY.out.below hbl2) (by have := F2.out; omega)
                have hfR2 : blen R2 ≤ 1125899906840000 := by
                  have h1 := blen_lt_mono HR2.out
                  have h2 := blen_shift y (m + 1)
                  have := F2.out
                  omega
                clear hblk2 hbl2 hn2
                go_wp2_with fail
                refine HS.mono ?_
                rintro e u5 ⟨⟨vx, rfl, Nx⟩, hb5⟩
                have HL6 := hide (HL5.out.trans (hb5.mono HL5.out.size))
                have HB6 := hide (HB5.out.kept hb5)
                have HN6 := hide (HN5.out.below hb5)
                have HCM := rcmp_any u6 vx R2 (y * 2 ^ m) u5 HN6.out Nx
                clear HS hb5 HL5 HB5 HN5
                by_cases hge : y * 2 ^ m ≤ R2
                · have hd : decide (cmpN R2 (y * 2 ^ m) ≥ 0) = true := by
                    unfold cmpN; rw [if_neg (by omega)]; split <;> decide
                  have hd2 : decide (0 ≤ cmpN R2 (y * 2 ^ m)) = true := hd
                  have HSUM2 := hide (half_sum y R' R2 Q m HSUM.out hge)
                  have HR3 := hide (half_down y R2 m HR2.out hge)
                  have HSB := fun (u : World) (ha : Num u u6 R2) (hb : Num u vx (y * 2 ^ m)) => rsub_new u6 vx R2 (y * 2 ^ m) u ha hb hge hfR2
                  have HQ2 : Hid (Q + 2 ^ m + 2 ^ m ≤ 4294967296) := hide (by have := HQ.out; rw [Nat.pow_succ] at this; omega)
                  have hP0 : 0 < 2 ^ m := Nat.two_pow_pos m
                  have HN7 := hide Nx
                  generalize cmpN R2 (y * 2 ^ m) = cc at *
                  generalize hYm : y * 2 ^ m = Y2 at *
                  have HYm := hide hYm
                  clear hYm
                  go_wp2_with fail
                  refine HCM.mono ?_
                  rintro e u7 ⟨rfl, hs⟩
                  have HL7 := hide (HL6.out.trans ((hs.below u5.heap.size).mono HL6.out.size))
                  have HB7 := hide (HB6.out.kept (hs.below _))
                  have HS7 := HSB u7 (HN6.out.below (hs.below _)) (HN7.out.below (hs.below _))
                  clear HCM hs HL6 HB6 HN6 HN7 Nx HSB
                  go_wp2_with fail
                  refine HS7.mono ?_
                  rintro e u8 ⟨⟨vr, rfl, Nr, nwr⟩, hb8⟩
                  have HL8 := hide (HL7.out.trans (hb8.mono HL7.out.size))
                  have HB8 := hide (HB7.out.kept hb8)
                  have HN8 := hide Nr
                  have NW8 : Hid (New (w.heap.size + 1) vr) := hide (nwr.mono HB7.out.lt)
                  clear HS7 hb8 Nr nwr HL7 HB7 hge hd hd2
                  obtain ⟨P, hP⟩ : ∃ P, P = 2 ^ m := ⟨_, rfl⟩
                  have HPm := hide hP
                  have eP : (2 : Int) ^ m = (P : Int) := by rw [hP]; push_cast; rfl
                  have bP : Q + P + P ≤ 4294967296 := by rw [hP]; exact HQ2.out
                  have bP0 : 0 < P := by rw [hP]; exact hP0
                  rw [← hP] at HSUM2
                  clear hP hP0 HQ2
                  have eQ : (Q : Int) + (P : Int) = ((Q + P : Nat) : Int) := by omega
                  generalize Q + P = Q2 at *
                  have wP : IntKind.u64.wrap (P : Int) = (P : Int) := by rw [IntKind.wrap_u64]; omega
                  have wQ : IntKind.u64.wrap (Q2 : Int) = (Q2 : Int) := by rw [IntKind.wrap_u64]; omega
                  go_wp2
                  go_roundw
                  case rel =>
                    refine ⟨m, Q2, R2 - Y2, by omega, rfl, rfl, HN8.out, NW8.out, HSUM2.out, ?_, ?_, HB8.out, HL8.out⟩
                    · rw [HYm.out]; exact HR3.out
                    · rw [← HPm.out]; exact bP
                  case measure => simp [intOf]
                · have hlt2 : R2 < y * 2 ^ m := by omega
                  have hc : cmpN R2 (y * 2 ^ m) = -1 := cmpN_lt hlt2
                  rw [hc] at HCM
                  have HLT2 := hide hlt2
                  have HQ2 : Hid (Q + 2 ^ m ≤ 4294967296) := hide (by have := HQ.out; rw [Nat.pow_succ] at this; omega)
                  clear hlt2 hc hge Nx
                  go_wp2_with fail
                  refine HCM.mono ?_
                  rintro e u7 ⟨rfl, hs⟩
                  have HL7 := hide (HL6.out.trans ((hs.below u5.heap.size).mono HL6.out.size))
                  have HB7 := hide (HB6.out.kept (hs.below _))
                  have HN7 := hide (HN6.out.below (hs.below _))
                  clear HCM hs HL6 HB6 HN6
                  go_wp2
                  go_roundw
                  case rel => exact ⟨m, Q, R2, by omega, rfl, rfl, HN7.out, NW5.out, HSUM.out, HLT2.out, HQ2.out, HB7.out, HL7.out⟩
                  case measure => simp [intOf]

end Go.Proofs.YtolebfnkmjmfnaaGreatDoor

namespace Go.Proofs.YtolebfnkmjmfnaaGreatDoor
open Go.RowKit
open Lm

theorem enter4 (w : World) (o1 o2 o3 o4 : Obj) : ∃ w0, (((w.alloc o1).alloc o2).alloc o3).alloc o4 = w0 ∧ Below w.heap.size w w0 ∧ w0.heap[w.heap.size]? = some o1 ∧ w0.heap[w.heap.size + 1]? = some o2 ∧ w0.heap[w.heap.size + 2]? = some o3 ∧ w0.heap[w.heap.size + 3]? = some o4 := by
  obtain ⟨w1, h1, b1, c1, c2, c3⟩ := enter3 w o1 o2 o3
  obtain ⟨w2, h2, b2, c4⟩ := enter1 w1 o4
  have hs : w1.heap.size = w.heap.size + 3 := by rw [← h1, World.size_alloc, World.size_alloc, World.size_alloc]
  refine ⟨w2, by rw [h1]; exact h2, b1.trans (b2.mono b1.size), ?_, ?_, ?_, by rw [← hs]; exact c4⟩
  · rw [b2.block _ (lt_of_block c1)]; exact c1
  · rw [b2.block _ (lt_of_block c2)]; exact c2
  · rw [b2.block _ (lt_of_block c3)]; exact c3

theorem quad_below {B : Nat} {w0 w : World} {g : Nat} {u0 u1 u2 u3 : Value} (h : Below B w0 w) (hg : B ≤ g) : Below B w0 ((((w.setCell ⟨g, 0, none⟩ u0).setCell ⟨g, 1, none⟩ u1).setCell ⟨g + 1, 0, none⟩ u2).setCell ⟨g + 1, 1, none⟩ u3) :=
  below_duo (below_duo h hg) (by omega)

end Go.Proofs.YtolebfnkmjmfnaaGreatDoor

namespace Go.Proofs.YtolebfnkmjmfnaaGreatDoor
open Go.RowKit
open Lm
attribute [local go_sem ↓] Go.wp_at_zero Go.wp_at_succ

theorem blen_mulW (x y : Nat) : blen (x * y) ≤ blen x + blen y := by
  refine (blen_le_iff _ _).2 ?_
  have h1 := (blen_le_iff x _).1 (Nat.le_refl _)
  have h2 := (blen_le_iff y _).1 (Nat.le_refl _)
  rw [Nat.pow_add]
  exact Nat.mul_lt_mul_of_lt_of_lt h1 h2

theorem bl_trans6 {W0 W t : World} (h : Below W0.heap.size W0 W) (h2 : Below W.heap.size W t) : Below W0.heap.size W0 t := h.trans (h2.mono h.size)

theorem blen_plusW {a b n : Nat} (ha : blen a ≤ n) (hb : blen b ≤ n) : blen (a + b) ≤ n + 1 := by
  refine (blen_le_iff _ _).2 ?_
  have h1 := (blen_le_iff a _).1 ha
  have h2 := (blen_le_iff b _).1 hb
  rw [Nat.pow_succ]
  omega

theorem pow_blenW (x : Nat) (h : x ≠ 0) : 2 ^ (blen x - 1) ≤ x := by
  rcases Nat.lt_or_ge x (2 ^ (blen x - 1)) with h1 | h1
  · have h2 := (blen_le_iff x (blen x - 1)).2 h1
    have h3 : blen x = 0 := by omega
    have h4 := (blen_le_iff x 0).1 (by omega)
    simp at h4
    exact absurd h4 h
  · exact h1

/-- A quotient and its divisor together are hardly longer than what was divided. -/
theorem quo_room {x y k q n : Nat} (hy : y ≠ 0) (hq : q ≤ x / y + k) (hk : k ≤ 2) (hx : blen x ≤ n) (hyb : blen y ≤ n) : blen q + blen y ≤ n + 5 := by
  have h1 : blen q ≤ blen (x / y) + 2 := by
    refine (blen_le_iff _ _).2 ?_
    have h1 := (blen_le_iff (x / y) _).1 (Nat.le_refl _)
    rw [Nat.pow_add]
    have := Nat.two_pow_pos (blen (x / y))
    omega
  have h2 : blen (x / y) + blen y ≤ n + 1 := by
    by_cases h0 : x / y = 0
    · have : blen (x / y) ≤ 0 := (blen_le_iff _ _).2 (by rw [h0]; decide)
      omega
    · have a := pow_blenW _ h0
      have b := pow_blenW _ hy
      have c := Nat.mul_le_mul a b
      have d := Nat.div_mul_le_self x y
      rw [← Nat.pow_add] at c
      have e := (blen_le_iff x _).1 hx
      have f : 2 ^ (blen (x / y) - 1 + (blen y - 1)) < 2 ^ n := by omega
      have g := (Nat.pow_lt_pow_iff_right (a := 2) (by omega)).1 f
      omega
  omega

/-- The quotient downwards, as the document reckons it. -/
def flq (y z : Int) : Int := zz (decide (y < 0) != decide (z < 0)) (y.natAbs / z.natAbs) - if decide (y.natAbs % z.natAbs ≠ 0) && (decide (y < 0) != decide (z < 0)) then 1 else 0

/-- Two of the document's numbers. -/
def ZnDone2 (w : World) (y z : Int) (e : Ending) (w' : World) : Prop :=
  (∃ b a n k b' a' n' k', e = .returned (.tuple #[.agg #[.bool b, .slice a n k], .agg #[.bool b', .slice a' n' k']]) ∧ Zn w' (.agg #[.bool b, .slice a n k]) y ∧ Zn w' (.agg #[.bool b', .slice a' n' k']) z) ∧ Below w.heap.size w w'

theorem quadZ {w : World} {g : Nat} {p p' : Bool} {a a' : Option Addr} {n k n' k' : Nat} {b1 b2 : Bool} {u1 u2 : Value} (h2 : w.heap[g]? = some (.cells #[.bool p, .slice a n k] 39)) (h3 : w.heap[g + 1]? = some (.cells #[.bool p', .slice a' n' k'] 39)) :
    ((((w.setCell ⟨g, 0, none⟩ (.bool b1)).setCell ⟨g, 1, none⟩ u1).setCell ⟨g + 1, 0, none⟩ (.bool b2)).setCell ⟨g + 1, 1, none⟩ u2).heap[g]? = some (.cells #[.bool b1, u1] 39) ∧
    ((((w.setCell ⟨g, 0, none⟩ (.bool b1)).setCell ⟨g, 1, none⟩ u1).setCell ⟨g + 1, 0, none⟩ (.bool b2)).setCell ⟨g + 1, 1, none⟩ u2).heap[g + 1]? = some (.cells #[.bool b2, u2] 39) ∧
    (∀ v z, Zn w v z → Zn ((((w.setCell ⟨g, 0, none⟩ (.bool b1)).setCell ⟨g, 1, none⟩ u1).setCell ⟨g + 1, 0, none⟩ (.bool b2)).setCell ⟨g + 1, 1, none⟩ u2) v z) := by
  have h4 := duo_other (u0 := .bool b1) (u1 := u1) h3 (show g + 1 ≠ g by omega)
  exact ⟨duo_other (duo_all h2) (by omega), duo_all h4, fun v z hz => (hz.duo h2).duo h4⟩

set_option maxRecDepth 20000 in
set_option maxHeartbeats 4000000 in
theorem rzfloor_any (v1 v2 : Value) (y z : Int) (w : World) (h1 : Zn w v1 y) (h2 : Zn w v2 z) (hz0 : z ≠ 0) (hf1 : blen y.natAbs ≤ 1125899906810000) (hf2 : blen z.natAbs ≤ 1125899906810000) :
    Calls Tryz.prog 47 #[v1, v2] w (ZnDone2 w (flq y z) (y - flq y z * z)) := by
  obtain ⟨b, a, n, k, rfl, hb, hn, hz⟩ := h1.parts
  obtain ⟨b2, a2, n2, k2, rfl, hb2, hn2, hz2⟩ := h2.parts
  obtain ⟨w0, hw0, hb0, c0, c1, c2, c3⟩ := enter4 w (.cells #[.bool b, .slice a n k] 39) (.cells #[.bool b2, .slice a2 n2 k2] 39) (.cells #[.bool false, .slice none 0 0] 39) (.cells #[.bool false, .slice none 0 0] 39)
  obtain ⟨d0, d1⟩ := duo c0
  obtain ⟨d2, d3⟩ := duo c1
  have HD := rdiv_any _ _ y.natAbs z.natAbs w0 (hn.below hb0) (hn2.below hb0) (by omega) (by omega) (by omega)
  have HB0 := hide hb0
  have HC0 := hide c0
  have HC1 := hide c1
  have HC2 := hide c2
  have HC3 := hide c3
  have HZ1 := hide (h1.below hb0)
  have HZ2 := hide (h2.below hb0)
  obtain ⟨sg, hsg, hsg2⟩ : ∃ sg, (b != b2) = sg ∧ (!(b == b2)) = sg := ⟨_, rfl, rfl⟩
  have hfl : flq y z = zz sg (y.natAbs / z.natAbs) - if decide (y.natAbs % z.natAbs ≠ 0) && sg then 1 else 0 := by
    unfold flq
    rw [← hb, ← hb2, hsg]
  have HFL := hide hfl
  clear h1 h2 hn hn2 hb0 c0 c1 c2 c3 hb hb2 hz hz2 hfl
  go_enter Tryz.func47, Tryz.ntmps47
  go_wp2_with fail
  refine HD.mono ?_
  rintro e t1 ⟨⟨vq, vr, rfl, nq, nr⟩, g1⟩
  obtain ⟨aq, mq, kq, rfl⟩ := nq.sl
  obtain ⟨ar, mr, kr, rfl⟩ := nr.sl
  have HM := rmake1_ok sg _ _ t1 nq
  have HNR := hide nr
  have HG1 := hide g1
  obtain ⟨e0, e1⟩ := duo (block_upW g1 HC0.out)
  obtain ⟨e2, e3⟩ := duo (block_upW g1 HC1.out)
  clear nq nr g1 HD d0 d1 d2 d3
  go_wp2_with fail
  refine HM.mono ?_
  rintro e t2 ⟨⟨bx, ax, mx, kx, rfl, hx⟩, g2⟩
  have g12 := bl_trans6 HG1.out g2
  obtain ⟨u2, hu2, hbu2, hxu2⟩ := enter1 t2 (.cells #[.bool bx, .slice ax mx kx] 39)
  have g13 := bl_trans6 g12 hbu2
  have HG12 := hide g12
  have HZE := zero_any _ (y.natAbs % z.natAbs) u2 (HNR.out.below (bl_trans6 g2 hbu2))
  have HX := hide (hx.below hbu2)
  have HBX := hide hxu2
  have HG := hide g13
  obtain ⟨f0, f1⟩ := duo (block_upW g13 HC0.out)
  obtain ⟨f2, f3⟩ := duo (block_upW g13 HC1.out)
  clear HM hx g2 g12 hbu2 hxu2 g13 e0 e1 e2 e3 HG1
  obtain ⟨rz, hrz⟩ : ∃ rz : Bool, ((y.natAbs % z.natAbs) == 0) = rz := ⟨_, rfl⟩
  rw [hrz] at HZE
  go_wp2_with fail
  refine HZE.mono ?_
  rintro e wn ⟨rfl, hw⟩; rw [hw]; clear hw wn HZE
  by_cases hc : rz = false ∧ sg = true
  · obtain ⟨rfl, rfl⟩ := hc
    have hfq : flq y z = zz true (y.natAbs / z.natAbs) - 1 := by
      rw [HFL.out]
      have h : ¬ y.natAbs % z.natAbs = 0 := by
        intro h
        rw [h] at hrz
        cases hrz
      simp [h]
    have HQB : Hid (blen (flq y z).natAbs + blen z.natAbs ≤ 1125899906840000) := hide (by
      have e : (flq y z).natAbs = y.natAbs / z.natAbs + 1 := by
        rw [hfq]
        generalize y.natAbs / z.natAbs = q
        simp only [zz, if_true]
        omega
      rw [e]
      have h3 := quo_room (x := y.natAbs) (y := z.natAbs) (k := 1) (q := y.natAbs / z.natAbs + 1) (by omega) (Nat.le_refl _) (by omega) hf1 hf2
      omega)
    have HFQ := hide hfq
    clear hfq hrz
    have I1 := rzint_any 1 u2.drew (by omega) (by omega)
    have hbq : blen (zz true (y.natAbs / z.natAbs)).natAbs ≤ 1125899906840000 := by
      rw [zz_abs]
      have := blen_mono (Nat.div_le_self y.natAbs z.natAbs)
      omega
    have hb1 : blen (Int.natAbs 1) ≤ 64 := by decide
    have S1 := hide (fun (W : World) (v : Value) (hg : Below u2.drew.heap.size u2.drew W) (hv : Zn W v 1) => rzsub_any (.agg #[.bool bx, .slice ax mx kx]) v (zz true (y.natAbs / z.natAbs)) 1 W (HX.out.drew6.below hg) hv hbq (by omega))
    have HT2 := hide (show Below t2.heap.size t2 u2 by rw [← hu2]; exact below_one6 _ _)
    obtain ⟨x0, x1⟩ := duo (show u2.drew.heap[t2.heap.size]? = some (.cells #[.bool bx, .slice ax mx kx] 39) from HBX.out)
    clear hbq
    go_upto_region 4 with fail
    go_cut [34] from 34 to 37 (fun _ wx => ∃ (bX : Bool) (aX : Option Addr) (mX kX : Nat), wx.heap[t2.heap.size]? = some (.cells #[.bool bX, .slice aX mX kX] 39) ∧ Zn wx (.agg #[.bool bX, .slice aX mX kX]) (flq y z) ∧ Below t2.heap.size t2 wx)
    case first =>
      go_region_with (first
        | (go_at_call 68; refine I1.mono ?_; rintro e' s1 ⟨⟨bi, ai, mi, ki, rfl, yi⟩, hs1⟩; have y0 := cell_up6 hs1 x0; have y1 := cell_up6 hs1 x1)
        | (go_at_call 75; refine (S1.out s1 _ hs1 yi).mono ?_; rintro e' s2 ⟨⟨bs, as9, ms, ks, rfl, ys⟩, hs2⟩; have hzx := block_upW hs2 (block_upW hs1 (show u2.drew.heap[t2.heap.size]? = some (.cells #[.bool bx, .slice ax mx kx] 39) from HBX.out)); have hfx := duof hzx; obtain ⟨w0', w1'⟩ := duo hzx))
      all_goals (go_wp2_with fail; go_meet)
      all_goals (refine ⟨bs, as9, ms, ks, duo_all hzx, ?_, below_duo (bl_trans6 (bl_trans6 HT2.out (Below.refl _ _).drew) (bl_trans6 hs1 hs2)) (Nat.le_refl _)⟩; rw [HFQ.out]; exact ys.duo hzx)
    case rest =>
      obtain ⟨bX, aX, mX, kX, BXF, ZXF, gx⟩ := hcut
      have gwc := bl_trans6 HG12.out gx
      have hbd : Below wc.heap.size wc wc.drew := (Below.refl _ _).drew
      have gd := bl_trans6 gwc hbd
      obtain ⟨j0, j1⟩ := duo (block_upW gd HC0.out)
      obtain ⟨j2, j3⟩ := duo (block_upW gd HC1.out)
      have hxd := block_upW hbd BXF
      obtain ⟨j4, j5⟩ := duo hxd
      have ZX := hide (ZXF.below hbd)
      have HMU := rzmul_any _ _ (flq y z) z wc.drew ZX.out (HZ2.out.below gd) (by have := HQB.out; omega)
      have HSU := hide (fun (W : World) (v : Value) (hg : Below wc.drew.heap.size wc.drew W) (hv : Zn W v (flq y z * z)) => rzsub_any (.agg #[.bool b, .slice a n k]) v y (flq y z * z) W ((HZ1.out.below gd).below hg) hv (by omega) (by have h1 := HQB.out; rw [Int.natAbs_mul]; have h2 := blen_mulW (flq y z).natAbs z.natAbs; omega))
      have hr2 := block_upW gd HC2.out
      have hr3 := block_upW gd HC3.out
      have HR2 := hide hr2
      have HR3 := hide hr3
      have HGD := hide (bl_trans6 HB0.out gd)
      have hlx : w.heap.size + 3 < t2.heap.size := lt_of_block (block_upW HG12.out HC3.out)
      have so0 : ∀ (W : World) (k : Nat) (u : Value) (k' : Nat), (W.setCell ⟨w.heap.size + 2, k, none⟩ u).cell? ⟨w.heap.size, k', none⟩ = W.cell? ⟨w.heap.size, k', none⟩ := fun W k u k' => cell_otherW (by omega)
      have so1 : ∀ (W : World) (k : Nat) (u : Value) (k' : Nat), (W.setCell ⟨w.heap.size + 2, k, none⟩ u).cell? ⟨w.heap.size + 1, k', none⟩ = W.cell? ⟨w.heap.size + 1, k', none⟩ := fun W k u k' => cell_otherW (by omega)
      have so2 : ∀ (W : World) (k : Nat) (u : Value) (k' : Nat), (W.setCell ⟨w.heap.size + 2, k, none⟩ u).cell? ⟨t2.heap.size, k', none⟩ = W.cell? ⟨t2.heap.size, k', none⟩ := fun W k u k' => cell_otherW (by omega)
      have so3 : ∀ (W : World) (k : Nat) (u : Value) (k' : Nat), (W.setCell ⟨w.heap.size + 2, k, none⟩ u).cell? ⟨w.heap.size + 3, k', none⟩ = W.cell? ⟨w.heap.size + 3, k', none⟩ := fun W k u k' => cell_otherW (by omega)
      have sp0 : ∀ (W : World) (k : Nat) (u : Value) (k' : Nat), (W.setCell ⟨w.heap.size + 3, k, none⟩ u).cell? ⟨w.heap.size, k', none⟩ = W.cell? ⟨w.heap.size, k', none⟩ := fun W k u k' => cell_otherW (by omega)
      have sp1 : ∀ (W : World) (k : Nat) (u : Value) (k' : Nat), (W.setCell ⟨w.heap.size + 3, k, none⟩ u).cell? ⟨w.heap.size + 1, k', none⟩ = W.cell? ⟨w.heap.size + 1, k', none⟩ := fun W k u k' => cell_otherW (by omega)
      have sp2 : ∀ (W : World) (k : Nat) (u : Value) (k' : Nat), (W.setCell ⟨w.heap.size + 3, k, none⟩ u).cell? ⟨t2.heap.size, k', none⟩ = W.cell? ⟨t2.heap.size, k', none⟩ := fun W k u k' => cell_otherW (by omega)
      clear hr2 hr3 hxd
      go_wp2
      go_region_held3 (fun w' => w'.cell? ⟨w.heap.size, 0, none⟩ = some (.bool b) ∧ w'.cell? ⟨w.heap.size, 1, none⟩ = some (.slice a n k) ∧ w'.cell? ⟨w.heap.size + 1, 0, none⟩ = some (.bool b2) ∧ w'.cell? ⟨w.heap.size + 1, 1, none⟩ = some (.slice a2 n2 k2) ∧ w'.cell? ⟨t2.heap.size, 0, none⟩ = some (.bool bX) ∧ w'.cell? ⟨t2.heap.size, 1, none⟩ = some (.slice aX mX kX)) (go_keep) (first
        | (go_at_call 76; refine HMU.mono ?_; rintro e' s1 ⟨⟨bp, ap, mp, kp, rfl, yp⟩, hs1⟩; have l0 := cell_up6 hs1 j0; have l1 := cell_up6 hs1 j1; have l2 := cell_up6 hs1 j2; have l3 := cell_up6 hs1 j3; have l4 := cell_up6 hs1 j4; have l5 := cell_up6 hs1 j5)
        | (go_at_call 75; refine (HSU.out s1 _ hs1 yp).mono ?_; rintro e' s2 ⟨⟨br, ar9, mr9, kr9, rfl, yr⟩, hs2⟩; have q0 := cell_up6 hs2 l0; have q1 := cell_up6 hs2 l1; have q2 := cell_up6 hs2 l2; have q3 := cell_up6 hs2 l3; have q4 := cell_up6 hs2 l4; have q5 := cell_up6 hs2 l5; have hz2 := block_upW hs2 (block_upW hs1 HR2.out); have hz3 := block_upW hs2 (block_upW hs1 HR3.out); have hf2' := duof hz2; have hf3' := duof hz3; obtain ⟨m0, m1⟩ := duo hz2; obtain ⟨m2, m3⟩ := duo hz3))
      have gs := bl_trans6 hs1 hs2
      have hq4 := quadZ (g := w.heap.size + 2) (b1 := bX) (u1 := .slice aX mX kX) (b2 := br) (u2 := .slice ar9 mr9 kr9) hz2 hz3
      have HE := hide (And.intro (hq4.2.2 _ _ (ZX.out.below gs)) (And.intro (hq4.2.2 _ _ yr) (quad_below (bl_trans6 HGD.out gs) (g := w.heap.size + 2) (u0 := .bool bX) (u1 := .slice aX mX kX) (u2 := .bool br) (u3 := .slice ar9 mr9 kr9) (by omega))))
      obtain ⟨R5, R6, _⟩ := hq4
      clear so0 so1 so2 so3 sp0 sp1 sp2 hz2 hz3 hf2' hf3' m0 m1 m2 m3 q0 q1 q2 q3 q4 q5 l0 l1 l2 l3 l4 l5 yr yp hs1 hs2 gs
      generalize (((s2.setCell ⟨w.heap.size + 2, 0, none⟩ (.bool bX)).setCell ⟨w.heap.size + 2, 1, none⟩ (.slice aX mX kX)).setCell ⟨w.heap.size + 2 + 1, 0, none⟩ (.bool br)).setCell ⟨w.heap.size + 2 + 1, 1, none⟩ (.slice ar9 mr9 kr9) = w5 at *
      obtain ⟨p0, p1⟩ := duo R5
      obtain ⟨p2, p3⟩ := duo R6
      go_wp2
      refine bodyPost_ret (v := .tuple #[.agg #[.bool bX, .slice aX mX kX], .agg #[.bool br, .slice ar9 mr9 kr9]]) (by simp [results, Tryz.results47, go_sem, p0, p1, p2, p3]) rfl ?_
      exact ⟨⟨_, _, _, _, _, _, _, _, rfl, HE.out.1, HE.out.2.1⟩, HE.out.2.2⟩
  · have hcd : (!rz && sg) = false := by
      rcases rz with _ | _ <;> rcases sg with _ | _ <;> simp_all
    have hfq : flq y z = zz sg (y.natAbs / z.natAbs) := by
      rw [HFL.out]
      have : (decide (y.natAbs % z.natAbs ≠ 0) && sg) = false := by
        rw [← hcd, ← hrz]
        congr 1
        by_cases h : y.natAbs % z.natAbs = 0 <;> simp [h]
      rw [this]; simp
    have HQB : Hid (blen (flq y z).natAbs + blen z.natAbs ≤ 1125899906840000) := hide (by
      rw [hfq, zz_abs]
      have h3 := quo_room (x := y.natAbs) (y := z.natAbs) (k := 0) (q := y.natAbs / z.natAbs) (by omega) (Nat.le_refl _) (by omega) hf1 hf2
      omega)
    have hX2 := HX.out
    rw [← hfq] at hX2
    have ZXF := hX2
    have BXF := HBX.out
    obtain ⟨bX, rfl⟩ : ∃ bX, bX = bx := ⟨_, rfl⟩
    obtain ⟨aX, rfl⟩ : ∃ aX, aX = ax := ⟨_, rfl⟩
    obtain ⟨mX, rfl⟩ : ∃ mX, mX = mx := ⟨_, rfl⟩
    obtain ⟨kX, rfl⟩ : ∃ kX, kX = kx := ⟨_, rfl⟩
    cases rz <;> cases sg <;> (try (exact absurd ⟨rfl, rfl⟩ hc))
    all_goals clear hcd hc hfq hX2
    · have hbd : Below u2.heap.size u2 u2.drew := (Below.refl _ _).drew
      have gd := bl_trans6 HG.out hbd
      obtain ⟨j0, j1⟩ := duo (block_upW gd HC0.out)
      obtain ⟨j2, j3⟩ := duo (block_upW gd HC1.out)
      have hxd := block_upW hbd BXF
      obtain ⟨j4, j5⟩ := duo hxd
      have ZX := hide (ZXF.below hbd)
      have HMU := rzmul_any _ _ (flq y z) z u2.drew ZX.out (HZ2.out.below gd) (by have := HQB.out; omega)
      have HSU := hide (fun (W : World) (v : Value) (hg : Below u2.drew.heap.size u2.drew W) (hv : Zn W v (flq y z * z)) => rzsub_any (.agg #[.bool b, .slice a n k]) v y (flq y z * z) W ((HZ1.out.below gd).below hg) hv (by omega) (by have h1 := HQB.out; rw [Int.natAbs_mul]; have h2 := blen_mulW (flq y z).natAbs z.natAbs; omega))
      have hr2 := block_upW gd HC2.out
      have hr3 := block_upW gd HC3.out
      have HR2 := hide hr2
      have HR3 := hide hr3
      have HGD := hide (bl_trans6 HB0.out gd)
      have hlx : w.heap.size + 3 < t2.heap.size := lt_of_block (block_upW HG12.out HC3.out)
      have so0 : ∀ (W : World) (k : Nat) (u : Value) (k' : Nat), (W.setCell ⟨w.heap.size + 2, k, none⟩ u).cell? ⟨w.heap.size, k', none⟩ = W.cell? ⟨w.heap.size, k', none⟩ := fun W k u k' => cell_otherW (by omega)
      have so1 : ∀ (W : World) (k : Nat) (u : Value) (k' : Nat), (W.setCell ⟨w.heap.size + 2, k, none⟩ u).cell? ⟨w.heap.size + 1, k', none⟩ = W.cell? ⟨w.heap.size + 1, k', none⟩ := fun W k u k' => cell_otherW (by omega)
      have so2 : ∀ (W : World) (k : Nat) (u : Value) (k' : Nat), (W.setCell ⟨w.heap.size + 2, k, none⟩ u).cell? ⟨t2.heap.size, k', none⟩ = W.cell? ⟨t2.heap.size, k', none⟩ := fun W k u k' => cell_otherW (by omega)
      have so3 : ∀ (W : World) (k : Nat) (u : Value) (k' : Nat), (W.setCell ⟨w.heap.size + 2, k, none⟩ u).cell? ⟨w.heap.size + 3, k', none⟩ = W.cell? ⟨w.heap.size + 3, k', none⟩ := fun W k u k' => cell_otherW (by omega)
      have sp0 : ∀ (W : World) (k : Nat) (u : Value) (k' : Nat), (W.setCell ⟨w.heap.size + 3, k, none⟩ u).cell? ⟨w.heap.size, k', none⟩ = W.cell? ⟨w.heap.size, k', none⟩ := fun W k u k' => cell_otherW (by omega)
      have sp1 : ∀ (W : World) (k : Nat) (u : Value) (k' : Nat), (W.setCell ⟨w.heap.size + 3, k, none⟩ u).cell? ⟨w.heap.size + 1, k', none⟩ = W.cell? ⟨w.heap.size + 1, k', none⟩ := fun W k u k' => cell_otherW (by omega)
      have sp2 : ∀ (W : World) (k : Nat) (u : Value) (k' : Nat), (W.setCell ⟨w.heap.size + 3, k, none⟩ u).cell? ⟨t2.heap.size, k', none⟩ = W.cell? ⟨t2.heap.size, k', none⟩ := fun W k u k' => cell_otherW (by omega)
      clear hr2 hr3 hxd
      go_wp2
      go_region_held3 (fun w' => w'.cell? ⟨w.heap.size, 0, none⟩ = some (.bool b) ∧ w'.cell? ⟨w.heap.size, 1, none⟩ = some (.slice a n k) ∧ w'.cell? ⟨w.heap.size + 1, 0, none⟩ = some (.bool b2) ∧ w'.cell? ⟨w.heap.size + 1, 1, none⟩ = some (.slice a2 n2 k2) ∧ w'.cell? ⟨t2.heap.size, 0, none⟩ = some (.bool bX) ∧ w'.cell? ⟨t2.heap.size, 1, none⟩ = some (.slice aX mX kX)) (go_keep) (first
        | (go_at_call 76; refine HMU.mono ?_; rintro e' s1 ⟨⟨bp, ap, mp, kp, rfl, yp⟩, hs1⟩; have l0 := cell_up6 hs1 j0; have l1 := cell_up6 hs1 j1; have l2 := cell_up6 hs1 j2; have l3 := cell_up6 hs1 j3; have l4 := cell_up6 hs1 j4; have l5 := cell_up6 hs1 j5)
        | (go_at_call 75; refine (HSU.out s1 _ hs1 yp).mono ?_; rintro e' s2 ⟨⟨br, ar9, mr9, kr9, rfl, yr⟩, hs2⟩; have q0 := cell_up6 hs2 l0; have q1 := cell_up6 hs2 l1; have q2 := cell_up6 hs2 l2; have q3 := cell_up6 hs2 l3; have q4 := cell_up6 hs2 l4; have q5 := cell_up6 hs2 l5; have hz2 := block_upW hs2 (block_upW hs1 HR2.out); have hz3 := block_upW hs2 (block_upW hs1 HR3.out); have hf2' := duof hz2; have hf3' := duof hz3; obtain ⟨m0, m1⟩ := duo hz2; obtain ⟨m2, m3⟩ := duo hz3))
      have gs := bl_trans6 hs1 hs2
      have hq4 := quadZ (g := w.heap.size + 2) (b1 := bX) (u1 := .slice aX mX kX) (b2 := br) (u2 := .slice ar9 mr9 kr9) hz2 hz3
      have HE := hide (And.intro (hq4.2.2 _ _ (ZX.out.below gs)) (And.intro (hq4.2.2 _ _ yr) (quad_below (bl_trans6 HGD.out gs) (g := w.heap.size + 2) (u0 := .bool bX) (u1 := .slice aX mX kX) (u2 := .bool br) (u3 := .slice ar9 mr9 kr9) (by omega))))
      obtain ⟨R5, R6, _⟩ := hq4
      clear so0 so1 so2 so3 sp0 sp1 sp2 hz2 hz3 hf2' hf3' m0 m1 m2 m3 q0 q1 q2 q3 q4 q5 l0 l1 l2 l3 l4 l5 yr yp hs1 hs2 gs
      generalize (((s2.setCell ⟨w.heap.size + 2, 0, none⟩ (.bool bX)).setCell ⟨w.heap.size + 2, 1, none⟩ (.slice aX mX kX)).setCell ⟨w.heap.size + 2 + 1, 0, none⟩ (.bool br)).setCell ⟨w.heap.size + 2 + 1, 1, none⟩ (.slice ar9 mr9 kr9) = w5 at *
      obtain ⟨p0, p1⟩ := duo R5
      obtain ⟨p2, p3⟩ := duo R6
      go_wp2
      refine bodyPost_ret (v := .tuple #[.agg #[.bool bX, .slice aX mX kX], .agg #[.bool br, .slice ar9 mr9 kr9]]) (by simp [results, Tryz.results47, go_sem, p0, p1, p2, p3]) rfl ?_
      exact ⟨⟨_, _, _, _, _, _, _, _, rfl, HE.out.1, HE.out.2.1⟩, HE.out.2.2⟩
    · have hbd : Below u2.heap.size u2 u2.drew := (Below.refl _ _).drew
      have gd := bl_trans6 HG.out hbd
      obtain ⟨j0, j1⟩ := duo (block_upW gd HC0.out)
      obtain ⟨j2, j3⟩ := duo (block_upW gd HC1.out)
      have hxd := block_upW hbd BXF
      obtain ⟨j4, j5⟩ := duo hxd
      have ZX := hide (ZXF.below hbd)
      have HMU := rzmul_any _ _ (flq y z) z u2.drew ZX.out (HZ2.out.below gd) (by have := HQB.out; omega)
      have HSU := hide (fun (W : World) (v : Value) (hg : Below u2.drew.heap.size u2.drew W) (hv : Zn W v (flq y z * z)) => rzsub_any (.agg #[.bool b, .slice a n k]) v y (flq y z * z) W ((HZ1.out.below gd).below hg) hv (by omega) (by have h1 := HQB.out; rw [Int.natAbs_mul]; have h2 := blen_mulW (flq y z).natAbs z.natAbs; omega))
      have hr2 := block_upW gd HC2.out
      have hr3 := block_upW gd HC3.out
      have HR2 := hide hr2
      have HR3 := hide hr3
      have HGD := hide (bl_trans6 HB0.out gd)
      have hlx : w.heap.size + 3 < t2.heap.size := lt_of_block (block_upW HG12.out HC3.out)
      have so0 : ∀ (W : World) (k : Nat) (u : Value) (k' : Nat), (W.setCell ⟨w.heap.size + 2, k, none⟩ u).cell? ⟨w.heap.size, k', none⟩ = W.cell? ⟨w.heap.size, k', none⟩ := fun W k u k' => cell_otherW (by omega)
      have so1 : ∀ (W : World) (k : Nat) (u : Value) (k' : Nat), (W.setCell ⟨w.heap.size + 2, k, none⟩ u).cell? ⟨w.heap.size + 1, k', none⟩ = W.cell? ⟨w.heap.size + 1, k', none⟩ := fun W k u k' => cell_otherW (by omega)
      have so2 : ∀ (W : World) (k : Nat) (u : Value) (k' : Nat), (W.setCell ⟨w.heap.size + 2, k, none⟩ u).cell? ⟨t2.heap.size, k', none⟩ = W.cell? ⟨t2.heap.size, k', none⟩ := fun W k u k' => cell_otherW (by omega)
      have so3 : ∀ (W : World) (k : Nat) (u : Value) (k' : Nat), (W.setCell ⟨w.heap.size + 2, k, none⟩ u).cell? ⟨w.heap.size + 3, k', none⟩ = W.cell? ⟨w.heap.size + 3, k', none⟩ := fun W k u k' => cell_otherW (by omega)
      have sp0 : ∀ (W : World) (k : Nat) (u : Value) (k' : Nat), (W.setCell ⟨w.heap.size + 3, k, none⟩ u).cell? ⟨w.heap.size, k', none⟩ = W.cell? ⟨w.heap.size, k', none⟩ := fun W k u k' => cell_otherW (by omega)
      have sp1 : ∀ (W : World) (k : Nat) (u : Value) (k' : Nat), (W.setCell ⟨w.heap.size + 3, k, none⟩ u).cell? ⟨w.heap.size + 1, k', none⟩ = W.cell? ⟨w.heap.size + 1, k', none⟩ := fun W k u k' => cell_otherW (by omega)
      have sp2 : ∀ (W : World) (k : Nat) (u : Value) (k' : Nat), (W.setCell ⟨w.heap.size + 3, k, none⟩ u).cell? ⟨t2.heap.size, k', none⟩ = W.cell? ⟨t2.heap.size, k', none⟩ := fun W k u k' => cell_otherW (by omega)
      clear hr2 hr3 hxd
      go_wp2
      go_region_held3 (fun w' => w'.cell? ⟨w.heap.size, 0, none⟩ = some (.bool b) ∧ w'.cell? ⟨w.heap.size, 1, none⟩ = some (.slice a n k) ∧ w'.cell? ⟨w.heap.size + 1, 0, none⟩ = some (.bool b2) ∧ w'.cell? ⟨w.heap.size + 1, 1, none⟩ = some (.slice a2 n2 k2) ∧ w'.cell? ⟨t2.heap.size, 0, none⟩ = some (.bool bX) ∧ w'.cell? ⟨t2.heap.size, 1, none⟩ = some (.slice aX mX kX)) (go_keep) (first
        | (go_at_call 76; refine HMU.mono ?_; rintro e' s1 ⟨⟨bp, ap, mp, kp, rfl, yp⟩, hs1⟩; have l0 := cell_up6 hs1 j0; have l1 := cell_up6 hs1 j1; have l2 := cell_up6 hs1 j2; have l3 := cell_up6 hs1 j3; have l4 := cell_up6 hs1 j4; have l5 := cell_up6 hs1 j5)
        | (go_at_call 75; refine (HSU.out s1 _ hs1 yp).mono ?_; rintro e' s2 ⟨⟨br, ar9, mr9, kr9, rfl, yr⟩, hs2⟩; have q0 := cell_up6 hs2 l0; have q1 := cell_up6 hs2 l1; have q2 := cell_up6 hs2 l2; have q3 := cell_up6 hs2 l3; have q4 := cell_up6 hs2 l4; have q5 := cell_up6 hs2 l5; have hz2 := block_upW hs2 (block_upW hs1 HR2.out); have hz3 := block_upW hs2 (block_upW hs1 HR3.out); have hf2' := duof hz2; have hf3' := duof hz3; obtain ⟨m0, m1⟩ := duo hz2; obtain ⟨m2, m3⟩ := duo hz3))
      have gs := bl_trans6 hs1 hs2
      have hq4 := quadZ (g := w.heap.size + 2) (b1 := bX) (u1 := .slice aX mX kX) (b2 := br) (u2 := .slice ar9 mr9 kr9) hz2 hz3
      have HE := hide (And.intro (hq4.2.2 _ _ (ZX.out.below gs)) (And.intro (hq4.2.2 _ _ yr) (quad_below (bl_trans6 HGD.out gs) (g := w.heap.size + 2) (u0 := .bool bX) (u1 := .slice aX mX kX) (u2 := .bool br) (u3 := .slice ar9 mr9 kr9) (by omega))))
      obtain ⟨R5, R6, _⟩ := hq4
      clear so0 so1 so2 so3 sp0 sp1 sp2 hz2 hz3 hf2' hf3' m0 m1 m2 m3 q0 q1 q2 q3 q4 q5 l0 l1 l2 l3 l4 l5 yr yp hs1 hs2 gs
      generalize (((s2.setCell ⟨w.heap.size + 2, 0, none⟩ (.bool bX)).setCell ⟨w.heap.size + 2, 1, none⟩ (.slice aX mX kX)).setCell ⟨w.heap.size + 2 + 1, 0, none⟩ (.bool br)).setCell ⟨w.heap.size + 2 + 1, 1, none⟩ (.slice ar9 mr9 kr9) = w5 at *
      obtain ⟨p0, p1⟩ := duo R5
      obtain ⟨p2, p3⟩ := duo R6
      go_wp2
      refine bodyPost_ret (v := .tuple #[.agg #[.bool bX, .slice aX mX kX], .agg #[.bool br, .slice ar9 mr9 kr9]]) (by simp [results, Tryz.results47, go_sem, p0, p1, p2, p3]) rfl ?_
      exact ⟨⟨_, _, _, _, _, _, _, _, rfl, HE.out.1, HE.out.2.1⟩, HE.out.2.2⟩
    · have hbd : Below u2.heap.size u2 u2.drew := (Below.refl _ _).drew
      have gd := bl_trans6 HG.out hbd
      obtain ⟨j0, j1⟩ := duo (block_upW gd HC0.out)
      obtain ⟨j2, j3⟩ := duo (block_upW gd HC1.out)
      have hxd := block_upW hbd BXF
      obtain ⟨j4, j5⟩ := duo hxd
      have ZX := hide (ZXF.below hbd)
      have HMU := rzmul_any _ _ (flq y z) z u2.drew ZX.out (HZ2.out.below gd) (by have := HQB.out; omega)
      have HSU := hide (fun (W : World) (v : Value) (hg : Below u2.drew.heap.size u2.drew W) (hv : Zn W v (flq y z * z)) => rzsub_any (.agg #[.bool b, .slice a n k]) v y (flq y z * z) W ((HZ1.out.below gd).below hg) hv (by omega) (by have h1 := HQB.out; rw [Int.natAbs_mul]; have h2 := blen_mulW (flq y z).natAbs z.natAbs; omega))
      have hr2 := block_upW gd HC2.out
      have hr3 := block_upW gd HC3.out
      have HR2 := hide hr2
      have HR3 := hide hr3
      have HGD := hide (bl_trans6 HB0.out gd)
      have hlx : w.heap.size + 3 < t2.heap.size := lt_of_block (block_upW HG12.out HC3.out)
      have so0 : ∀ (W : World) (k : Nat) (u : Value) (k' : Nat), (W.setCell ⟨w.heap.size + 2, k, none⟩ u).cell? ⟨w.heap.size, k', none⟩ = W.cell? ⟨w.heap.size, k', none⟩ := fun W k u k' => cell_otherW (by omega)
      have so1 : ∀ (W : World) (k : Nat) (u : Value) (k' : Nat), (W.setCell ⟨w.heap.size + 2, k, none⟩ u).cell? ⟨w.heap.size + 1, k', none⟩ = W.cell? ⟨w.heap.size + 1, k', none⟩ := fun W k u k' => cell_otherW (by omega)
      have so2 : ∀ (W : World) (k : Nat) (u : Value) (k' : Nat), (W.setCell ⟨w.heap.size + 2, k, none⟩ u).cell? ⟨t2.heap.size, k', none⟩ = W.cell? ⟨t2.heap.size, k', none⟩ := fun W k u k' => cell_otherW (by omega)
      have so3 : ∀ (W : World) (k : Nat) (u : Value) (k' : Nat), (W.setCell ⟨w.heap.size + 2, k, none⟩ u).cell? ⟨w.heap.size + 3, k', none⟩ = W.cell? ⟨w.heap.size + 3, k', none⟩ := fun W k u k' => cell_otherW (by omega)
      have sp0 : ∀ (W : World) (k : Nat) (u : Value) (k' : Nat), (W.setCell ⟨w.heap.size + 3, k, none⟩ u).cell? ⟨w.heap.size, k', none⟩ = W.cell? ⟨w.heap.size, k', none⟩ := fun W k u k' => cell_otherW (by omega)
      have sp1 : ∀ (W : World) (k : Nat) (u : Value) (k' : Nat), (W.setCell ⟨w.heap.size + 3, k, none⟩ u).cell? ⟨w.heap.size + 1, k', none⟩ = W.cell? ⟨w.heap.size + 1, k', none⟩ := fun W k u k' => cell_otherW (by omega)
      have sp2 : ∀ (W : World) (k : Nat) (u : Value) (k' : Nat), (W.setCell ⟨w.heap.size + 3, k, none⟩ u).cell? ⟨t2.heap.size, k', none⟩ = W.cell? ⟨t2.heap.size, k', none⟩ := fun W k u k' => cell_otherW (by omega)
      clear hr2 hr3 hxd
      go_wp2
      go_region_held3 (fun w' => w'.cell? ⟨w.heap.size, 0, none⟩ = some (.bool b) ∧ w'.cell? ⟨w.heap.size, 1, none⟩ = some (.slice a n k) ∧ w'.cell? ⟨w.heap.size + 1, 0, none⟩ = some (.bool b2) ∧ w'.cell? ⟨w.heap.size + 1, 1, none⟩ = some (.slice a2 n2 k2) ∧ w'.cell? ⟨t2.heap.size, 0, none⟩ = some (.bool bX) ∧ w'.cell? ⟨t2.heap.size, 1, none⟩ = some (.slice aX mX kX)) (go_keep) (first
        | (go_at_call 76; refine HMU.mono ?_; rintro e' s1 ⟨⟨bp, ap, mp, kp, rfl, yp⟩, hs1⟩; have l0 := cell_up6 hs1 j0; have l1 := cell_up6 hs1 j1; have l2 := cell_up6 hs1 j2; have l3 := cell_up6 hs1 j3; have l4 := cell_up6 hs1 j4; have l5 := cell_up6 hs1 j5)
        | (go_at_call 75; refine (HSU.out s1 _ hs1 yp).mono ?_; rintro e' s2 ⟨⟨br, ar9, mr9, kr9, rfl, yr⟩, hs2⟩; have q0 := cell_up6 hs2 l0; have q1 := cell_up6 hs2 l1; have q2 := cell_up6 hs2 l2; have q3 := cell_up6 hs2 l3; have q4 := cell_up6 hs2 l4; have q5 := cell_up6 hs2 l5; have hz2 := block_upW hs2 (block_upW hs1 HR2.out); have hz3 := block_upW hs2 (block_upW hs1 HR3.out); have hf2' := duof hz2; have hf3' := duof hz3; obtain ⟨m0, m1⟩ := duo hz2; obtain ⟨m2, m3⟩ := duo hz3))
      have gs := bl_trans6 hs1 hs2
      have hq4 := quadZ (g := w.heap.size + 2) (b1 := bX) (u1 := .slice aX mX kX) (b2 := br) (u2 := .slice ar9 mr9 kr9) hz2 hz3
      have HE := hide (And.intro (hq4.2.2 _ _ (ZX.out.below gs)) (And.intro (hq4.2.2 _ _ yr) (quad_below (bl_trans6 HGD.out gs) (g := w.heap.size + 2) (u0 := .bool bX) (u1 := .slice aX mX kX) (u2 := .bool br) (u3 := .slice ar9 mr9 kr9) (by omega))))
      obtain ⟨R5, R6, _⟩ := hq4
      clear so0 so1 so2 so3 sp0 sp1 sp2 hz2 hz3 hf2' hf3' m0 m1 m2 m3 q0 q1 q2 q3 q4 q5 l0 l1 l2 l3 l4 l5 yr yp hs1 hs2 gs
      generalize (((s2.setCell ⟨w.heap.size + 2, 0, none⟩ (.bool bX)).setCell ⟨w.heap.size + 2, 1, none⟩ (.slice aX mX kX)).setCell ⟨w.heap.size + 2 + 1, 0, none⟩ (.bool br)).setCell ⟨w.heap.size + 2 + 1, 1, none⟩ (.slice ar9 mr9 kr9) = w5 at *
      obtain ⟨p0, p1⟩ := duo R5
      obtain ⟨p2, p3⟩ := duo R6
      go_wp2
      refine bodyPost_ret (v := .tuple #[.agg #[.bool bX, .slice aX mX kX], .agg #[.bool br, .slice ar9 mr9 kr9]]) (by simp [results, Tryz.results47, go_sem, p0, p1, p2, p3]) rfl ?_
      exact ⟨⟨_, _, _, _, _, _, _, _, rfl, HE.out.1, HE.out.2.1⟩, HE.out.2.2⟩

end Go.Proofs.YtolebfnkmjmfnaaGreatDoor

namespace Go.Proofs.YtolebfnkmjmfnaaGreatDoor
open Go.RowKit
open Lm
attribute [local go_sem ↓] Go.wp_at_zero Go.wp_at_succ

theorem flq_few (y z : Int) : (flq y z).natAbs ≤ y.natAbs / z.natAbs + 1 := by
  unfold flq
  generalize y.natAbs / z.natAbs = q
  generalize (decide (y < 0) != decide (z < 0)) = s
  generalize decide (y.natAbs % z.natAbs ≠ 0) = t
  cases s <;> cases t <;> simp [zz] <;> omega

theorem blen_next {x q k : Nat} (h : q ≤ x + k) (hk : k ≤ 2) : blen q ≤ blen x + 2 := by
  refine (blen_le_iff _ _).2 ?_
  have h1 := (blen_le_iff x _).1 (Nat.le_refl _)
  rw [Nat.pow_add]
  have := Nat.two_pow_pos (blen x)
  omega

/-- The quotient upwards, as the document reckons it. -/
def ceq (y z : Int) : Int := if y - flq y z * z = 0 then flq y z else flq y z + 1

set_option maxRecDepth 20000 in
set_option maxHeartbeats 4000000 in
theorem rzceil_any (v1 v2 : Value) (y z : Int) (w : World) (h1 : Zn w v1 y) (h2 : Zn w v2 z) (hz0 : z ≠ 0) (hf1 : blen y.natAbs ≤ 1125899906810000) (hf2 : blen z.natAbs ≤ 1125899906810000) :
    Calls Tryz.prog 48 #[v1, v2] w (ZnDone2 w (ceq y z) (y - ceq y z * z)) := by
  obtain ⟨b, a, n, k, rfl, hb, hn, hz⟩ := h1.parts
  obtain ⟨b2, a2, n2, k2, rfl, hb2, hn2, hz2⟩ := h2.parts
  obtain ⟨w0, hw0, hb0, c0, c1, c2, c3⟩ := enter4 w (.cells #[.bool b, .slice a n k] 39) (.cells #[.bool b2, .slice a2 n2 k2] 39) (.cells #[.bool false, .slice none 0 0] 39) (.cells #[.bool false, .slice none 0 0] 39)
  obtain ⟨d0, d1⟩ := duo c0
  obtain ⟨d2, d3⟩ := duo c1
  have HD := rzfloor_any _ _ y z w0 (h1.below hb0) (h2.below hb0) hz0 hf1 hf2
  have HB0 := hide hb0
  have HC0 := hide c0
  have HC1 := hide c1
  have HC2 := hide c2
  have HC3 := hide c3
  have HZ1 := hide (h1.below hb0)
  have HZ2 := hide (h2.below hb0)
  have hfq := flq_few y z
  have hdq := Nat.div_le_self y.natAbs z.natAbs
  have hbq := blen_next (x := y.natAbs) (q := (flq y z).natAbs) (k := 1) (by omega) (by omega)
  clear h1 h2 hn hn2 hb0 c0 c1 c2 c3 hb hb2 hz hz2
  by_cases hr0 : y - flq y z * z = 0
  · have hce : ceq y z = flq y z := if_pos hr0
    rw [hce]
    go_enter Tryz.func48, Tryz.ntmps48
    go_wp2_with fail
    refine HD.mono ?_
    rintro e t1 ⟨⟨bX, aX, mX, kX, br, ar9, mr9, kr9, rfl, zq, zr⟩, g1⟩
    obtain ⟨u2, hu2, hbu2, hxu, hyu⟩ := enter2 t1 (.cells #[.bool bX, .slice aX mX kX] 39) (.cells #[.bool br, .slice ar9 mr9 kr9] 39)
    obtain ⟨e0, e1⟩ := duo hyu
    have HS := rzsign_any _ _ u2 (zr.below hbu2)
    rw [hr0, Int.sign_zero] at HS
    have HZQ := hide (zq.below hbu2)
    have HZR := hide (zr.below hbu2)
    have HXU := hide hxu
    have HYU := hide hyu
    have HG := hide (bl_trans6 g1 hbu2)
    have HG1 := hide g1
    clear HD d0 d1 d2 d3 zq zr hbu2 hxu hyu g1
    go_wp2_with fail
    refine HS.mono ?_
    rintro e t3 ⟨rfl, g3⟩
    have gg := bl_trans6 HG.out g3
    obtain ⟨f0, f1⟩ := duo (block_upW g3 HXU.out)
    obtain ⟨f2, f3⟩ := duo (block_upW g3 HYU.out)
    have hz2 := block_upW gg HC2.out
    have hz3 := block_upW gg HC3.out
    have hf2' := duof hz2
    have hf3' := duof hz3
    obtain ⟨m0, m1⟩ := duo hz2
    obtain ⟨m2, m3⟩ := duo hz3
    have hlx : w.heap.size + 3 < t1.heap.size := lt_of_block (block_upW HG1.out HC3.out)
    have so1 : ∀ (W : World) (k : Nat) (u : Value) (k' : Nat), (W.setCell ⟨w.heap.size + 2, k, none⟩ u).cell? ⟨t1.heap.size, k', none⟩ = W.cell? ⟨t1.heap.size, k', none⟩ := fun W k u k' => cell_otherW (by omega)
    have so2 : ∀ (W : World) (k : Nat) (u : Value) (k' : Nat), (W.setCell ⟨w.heap.size + 2, k, none⟩ u).cell? ⟨t1.heap.size + 1, k', none⟩ = W.cell? ⟨t1.heap.size + 1, k', none⟩ := fun W k u k' => cell_otherW (by omega)
    have so3 : ∀ (W : World) (k : Nat) (u : Value) (k' : Nat), (W.setCell ⟨w.heap.size + 2, k, none⟩ u).cell? ⟨w.heap.size + 3, k', none⟩ = W.cell? ⟨w.heap.size + 3, k', none⟩ := fun W k u k' => cell_otherW (by omega)
    have so4 : ∀ (W : World) (k : Nat) (u : Value) (k' : Nat), (W.setCell ⟨w.heap.size + 3, k, none⟩ u).cell? ⟨t1.heap.size, k', none⟩ = W.cell? ⟨t1.heap.size, k', none⟩ := fun W k u k' => cell_otherW (by omega)
    have so5 : ∀ (W : World) (k : Nat) (u : Value) (k' : Nat), (W.setCell ⟨w.heap.size + 3, k, none⟩ u).cell? ⟨t1.heap.size + 1, k', none⟩ = W.cell? ⟨t1.heap.size + 1, k', none⟩ := fun W k u k' => cell_otherW (by omega)
    have so6 : ∀ (W : World) (k : Nat) (u : Value) (k' : Nat), (W.setCell ⟨w.heap.size + 3, k, none⟩ u).cell? ⟨w.heap.size + 2, k', none⟩ = W.cell? ⟨w.heap.size + 2, k', none⟩ := fun W k u k' => cell_otherW (by omega)
    have hq4 := quadZ (g := w.heap.size + 2) (b1 := bX) (u1 := .slice aX mX kX) (b2 := br) (u2 := .slice ar9 mr9 kr9) hz2 hz3
    have HE := hide (And.intro (hq4.2.2 _ _ (HZQ.out.below g3)) (And.intro (hq4.2.2 _ _ (HZR.out.below g3)) (quad_below (bl_trans6 HB0.out gg) (g := w.heap.size + 2) (u0 := .bool bX) (u1 := .slice aX mX kX) (u2 := .bool br) (u3 := .slice ar9 mr9 kr9) (by omega))))
    obtain ⟨R5, R6, _⟩ := hq4
    clear hz2 hz3 gg g3 HS HG
    go_wp2
    go_region
    all_goals (
      clear so1 so2 so3 so4 so5 so6 hf2' hf3' m0 m1 m2 m3 f0 f1 f2 f3
      generalize (((t3.setCell ⟨w.heap.size + 2, 0, none⟩ (.bool bX)).setCell ⟨w.heap.size + 2, 1, none⟩ (.slice aX mX kX)).setCell ⟨w.heap.size + 2 + 1, 0, none⟩ (.bool br)).setCell ⟨w.heap.size + 2 + 1, 1, none⟩ (.slice ar9 mr9 kr9) = w5 at *
      obtain ⟨p0, p1⟩ := duo (show w5.drew.heap[w.heap.size + 2]? = _ from R5)
      obtain ⟨p2, p3⟩ := duo (show w5.drew.heap[w.heap.size + 2 + 1]? = _ from R6)
      go_wp2
      refine bodyPost_ret (v := .tuple #[.agg #[.bool bX, .slice aX mX kX], .agg #[.bool br, .slice ar9 mr9 kr9]]) (by simp [results, Tryz.results48, go_sem, p0, p1, p2, p3]) rfl ?_
      exact ⟨⟨_, _, _, _, _, _, _, _, rfl, HE.out.1.drew6, HE.out.2.1.drew6⟩, HE.out.2.2.drew⟩)
  · have hce : ceq y z = flq y z + 1 := if_neg hr0
    have HQB : Hid (blen (ceq y z).natAbs + blen z.natAbs ≤ 1125899906840000) := hide (by
      have h := quo_room (x := y.natAbs) (y := z.natAbs) (q := (ceq y z).natAbs) (k := 2) (by omega) (by rw [hce]; omega) (by omega) hf1 hf2
      omega)
    have HFQ := hide hce
    obtain ⟨rs, hrs, hrs0⟩ : ∃ rs : Int, (y - flq y z * z).sign = rs ∧ (rs == 0) = false := ⟨_, rfl, by
      rw [beq_eq_false_iff_ne]
      exact fun h => hr0 (Int.sign_eq_zero_iff_zero.1 h)⟩
    clear hce hr0
    go_enter Tryz.func48, Tryz.ntmps48
    go_wp2_with fail
    refine HD.mono ?_
    rintro e t1 ⟨⟨bx, ax, mx, kx, br0, ar0, mr0, kr0, rfl, zq, zr⟩, g1⟩
    obtain ⟨u2, hu2, hbu2, hxu, hyu⟩ := enter2 t1 (.cells #[.bool bx, .slice ax mx kx] 39) (.cells #[.bool br0, .slice ar0 mr0 kr0] 39)
    obtain ⟨e0, e1⟩ := duo hyu
    have HS := rzsign_any _ _ u2 (zr.below hbu2)
    rw [hrs] at HS
    have HZQ := hide (zq.below hbu2)
    have HXU := hide hxu
    have HU2 := hide hbu2
    have HG1 := hide g1
    clear HD d0 d1 d2 d3 zq zr hbu2 hxu hyu g1 hrs
    go_wp2_with fail
    refine HS.mono ?_
    rintro e t3 ⟨rfl, g3⟩
    have HG3 := hide (bl_trans6 HU2.out g3)
    have HX3 := hide (block_upW g3 HXU.out)
    have HZ3 := hide (HZQ.out.below g3)
    have I1 := rzint_any 1 t3.drew (by omega) (by omega)
    have hb1 : blen (Int.natAbs 1) ≤ 64 := by decide
    have S1 := hide (fun (W : World) (v : Value) (hg : Below t3.drew.heap.size t3.drew W) (hv : Zn W v 1) => rzadd_any (.agg #[.bool bx, .slice ax mx kx]) v (flq y z) 1 W (HZ3.out.drew6.below hg) hv (by omega) (by omega))
    obtain ⟨x0, x1⟩ := duo (show t3.drew.heap[t1.heap.size]? = some (.cells #[.bool bx, .slice ax mx kx] 39) from HX3.out)
    clear g3 HS HZQ HXU e0 e1 hu2
    go_upto_region 4 with fail
    go_cut [19] from 19 to 22 (fun _ wx => ∃ (bX : Bool) (aX : Option Addr) (mX kX : Nat), wx.heap[t1.heap.size]? = some (.cells #[.bool bX, .slice aX mX kX] 39) ∧ Zn wx (.agg #[.bool bX, .slice aX mX kX]) (ceq y z) ∧ Below t1.heap.size t1 wx)
    case first =>
      go_region_with (first
        | (go_at_call 68; refine I1.mono ?_; rintro e' s1 ⟨⟨bi, ai, mi, ki, rfl, yi⟩, hs1⟩; have y0 := cell_up6 hs1 x0; have y1 := cell_up6 hs1 x1)
        | (go_at_call 69; refine (S1.out s1 _ hs1 yi).mono ?_; rintro e' s2 ⟨⟨bs, as9, ms, ks, rfl, ys⟩, hs2⟩; have hzx := block_upW hs2 (block_upW hs1 (show t3.drew.heap[t1.heap.size]? = some (.cells #[.bool bx, .slice ax mx kx] 39) from HX3.out)); have hfx := duof hzx; obtain ⟨w0', w1'⟩ := duo hzx))
      all_goals (go_wp2_with fail; go_meet)
      all_goals (refine ⟨bs, as9, ms, ks, duo_all hzx, ?_, below_duo (bl_trans6 (bl_trans6 HG3.out (Below.refl _ _).drew) (bl_trans6 hs1 hs2)) (Nat.le_refl _)⟩; rw [HFQ.out]; exact ys.duo hzx)
    case rest =>
      obtain ⟨bX, aX, mX, kX, BXF, ZXF, gx⟩ := hcut
      have gwc := bl_trans6 HG1.out gx
      have hbd : Below wc.heap.size wc wc.drew := (Below.refl _ _).drew
      have gd := bl_trans6 gwc hbd
      obtain ⟨j0, j1⟩ := duo (block_upW gd HC0.out)
      obtain ⟨j2, j3⟩ := duo (block_upW gd HC1.out)
      have hxd := block_upW hbd BXF
      obtain ⟨j4, j5⟩ := duo hxd
      have ZX := hide (ZXF.below hbd)
      have HMU := rzmul_any _ _ (ceq y z) z wc.drew ZX.out (HZ2.out.below gd) (by have := HQB.out; omega)
      have HSU := hide (fun (W : World) (v : Value) (hg : Below wc.drew.heap.size wc.drew W) (hv : Zn W v (ceq y z * z)) => rzsub_any (.agg #[.bool b, .slice a n k]) v y (ceq y z * z) W ((HZ1.out.below gd).below hg) hv (by omega) (by have h1 := HQB.out; rw [Int.natAbs_mul]; have h2 := blen_mulW (ceq y z).natAbs z.natAbs; omega))
      have hr2 := block_upW gd HC2.out
      have hr3 := block_upW gd HC3.out
      have HR2 := hide hr2
      have HR3 := hide hr3
      have HGD := hide (bl_trans6 HB0.out gd)
      have hlx : w.heap.size + 3 < t1.heap.size := lt_of_block (block_upW HG1.out HC3.out)
      have so0 : ∀ (W : World) (k : Nat) (u : Value) (k' : Nat), (W.setCell ⟨w.heap.size + 2, k, none⟩ u).cell? ⟨w.heap.size, k', none⟩ = W.cell? ⟨w.heap.size, k', none⟩ := fun W k u k' => cell_otherW (by omega)
      have so1 : ∀ (W : World) (k : Nat) (u : Value) (k' : Nat), (W.setCell ⟨w.heap.size + 2, k, none⟩ u).cell? ⟨w.heap.size + 1, k', none⟩ = W.cell? ⟨w.heap.size + 1, k', none⟩ := fun W k u k' => cell_otherW (by omega)
      have so2 : ∀ (W : World) (k : Nat) (u : Value) (k' : Nat), (W.setCell ⟨w.heap.size + 2, k, none⟩ u).cell? ⟨t1.heap.size, k', none⟩ = W.cell? ⟨t1.heap.size, k', none⟩ := fun W k u k' => cell_otherW (by omega)
      have so3 : ∀ (W : World) (k : Nat) (u : Value) (k' : Nat), (W.setCell ⟨w.heap.size + 2, k, none⟩ u).cell? ⟨w.heap.size + 3, k', none⟩ = W.cell? ⟨w.heap.size + 3, k', none⟩ := fun W k u k' => cell_otherW (by omega)
      have sp0 : ∀ (W : World) (k : Nat) (u : Value) (k' : Nat), (W.setCell ⟨w.heap.size + 3, k, none⟩ u).cell? ⟨w.heap.size, k', none⟩ = W.cell? ⟨w.heap.size, k', none⟩ := fun W k u k' => cell_otherW (by omega)
      have sp1 : ∀ (W : World) (k : Nat) (u : Value) (k' : Nat), (W.setCell ⟨w.heap.size + 3, k, none⟩ u).cell? ⟨w.heap.size + 1, k', none⟩ = W.cell? ⟨w.heap.size + 1, k', none⟩ := fun W k u k' => cell_otherW (by omega)
      have sp2 : ∀ (W : World) (k : Nat) (u : Value) (k' : Nat), (W.setCell ⟨w.heap.size + 3, k, none⟩ u).cell? ⟨t1.heap.size, k', none⟩ = W.cell? ⟨t1.heap.size, k', none⟩ := fun W k u k' => cell_otherW (by omega)
      clear hr2 hr3 hxd
      go_wp2
      go_region_held3 (fun w' => w'.cell? ⟨w.heap.size, 0, none⟩ = some (.bool b) ∧ w'.cell? ⟨w.heap.size, 1, none⟩ = some (.slice a n k) ∧ w'.cell? ⟨w.heap.size + 1, 0, none⟩ = some (.bool b2) ∧ w'.cell? ⟨w.heap.size + 1, 1, none⟩ = some (.slice a2 n2 k2) ∧ w'.cell? ⟨t1.heap.size, 0, none⟩ = some (.bool bX) ∧ w'.cell? ⟨t1.heap.size, 1, none⟩ = some (.slice aX mX kX)) (go_keep) (first
        | (go_at_call 76; refine HMU.mono ?_; rintro e' s1 ⟨⟨bp, ap, mp, kp, rfl, yp⟩, hs1⟩; have l0 := cell_up6 hs1 j0; have l1 := cell_up6 hs1 j1; have l2 := cell_up6 hs1 j2; have l3 := cell_up6 hs1 j3; have l4 := cell_up6 hs1 j4; have l5 := cell_up6 hs1 j5)
        | (go_at_call 75; refine (HSU.out s1 _ hs1 yp).mono ?_; rintro e' s2 ⟨⟨br, ar9, mr9, kr9, rfl, yr⟩, hs2⟩; have q0 := cell_up6 hs2 l0; have q1 := cell_up6 hs2 l1; have q2 := cell_up6 hs2 l2; have q3 := cell_up6 hs2 l3; have q4 := cell_up6 hs2 l4; have q5 := cell_up6 hs2 l5; have hz2 := block_upW hs2 (block_upW hs1 HR2.out); have hz3 := block_upW hs2 (block_upW hs1 HR3.out); have hf2' := duof hz2; have hf3' := duof hz3; obtain ⟨m0, m1⟩ := duo hz2; obtain ⟨m2, m3⟩ := duo hz3))
      have gs := bl_trans6 hs1 hs2
      have hq4 := quadZ (g := w.heap.size + 2) (b1 := bX) (u1 := .slice aX mX kX) (b2 := br) (u2 := .slice ar9 mr9 kr9) hz2 hz3
      have HE := hide (And.intro (hq4.2.2 _ _ (ZX.out.below gs)) (And.intro (hq4.2.2 _ _ yr) (quad_below (bl_trans6 HGD.out gs) (g := w.heap.size + 2) (u0 := .bool bX) (u1 := .slice aX mX kX) (u2 := .bool br) (u3 := .slice ar9 mr9 kr9) (by omega))))
      obtain ⟨R5, R6, _⟩ := hq4
      clear so0 so1 so2 so3 sp0 sp1 sp2 hz2 hz3 hf2' hf3' m0 m1 m2 m3 q0 q1 q2 q3 q4 q5 l0 l1 l2 l3 l4 l5 yr yp hs1 hs2 gs
      generalize (((s2.setCell ⟨w.heap.size + 2, 0, none⟩ (.bool bX)).setCell ⟨w.heap.size + 2, 1, none⟩ (.slice aX mX kX)).setCell ⟨w.heap.size + 2 + 1, 0, none⟩ (.bool br)).setCell ⟨w.heap.size + 2 + 1, 1, none⟩ (.slice ar9 mr9 kr9) = w5 at *
      obtain ⟨p0, p1⟩ := duo R5
      obtain ⟨p2, p3⟩ := duo R6
      go_wp2
      refine bodyPost_ret (v := .tuple #[.agg #[.bool bX, .slice aX mX kX], .agg #[.bool br, .slice ar9 mr9 kr9]]) (by simp [results, Tryz.results48, go_sem, p0, p1, p2, p3]) rfl ?_
      exact ⟨⟨_, _, _, _, _, _, _, _, rfl, HE.out.1, HE.out.2.1⟩, HE.out.2.2⟩

end Go.Proofs.YtolebfnkmjmfnaaGreatDoor

namespace Go.Proofs.YtolebfnkmjmfnaaGreatDoor
open Go.RowKit
open Lm
attribute [local go_sem ↓] Go.wp_at_zero Go.wp_at_succ

end Go.Proofs.YtolebfnkmjmfnaaGreatDoor

namespace Go.Proofs.YtolebfnkmjmfnaaGreatDoor
open Go.RowKit
open Lm
attribute [local go_sem ↓] Go.wp_at_zero Go.wp_at_succ

theorem Zn.inv9 {w : World} {b : Bool} {u : Value} {z : Int} (h : Zn w (.agg #[.bool b, u]) z) : b = decide (z < 0) ∧ Num w u z.natAbs := by
  obtain ⟨u', h1, h2⟩ := h
  simp only [Value.agg.injEq, Array.mk.injEq, List.cons.injEq, Value.bool.injEq, and_true] at h1
  obtain ⟨rfl, rfl⟩ := h1
  exact ⟨rfl, h2⟩

/-- Is the quotient downwards too small by more than a half? -/
def nearC (y z : Int) : Bool := decide (z.natAbs < (y - flq y z * z).natAbs * 2) || (decide ((y - flq y z * z).natAbs * 2 = z.natAbs) && decide ((flq y z).natAbs % 2 = 1))

/-- To the nearest, as the document reckons it. -/
def neq (y z : Int) : Int := if nearC y z then flq y z + 1 else flq y z

set_option maxRecDepth 20000 in
set_option maxHeartbeats 4000000 in
theorem rznear_any (v1 v2 : Value) (y z : Int) (w : World) (h1 : Zn w v1 y) (h2 : Zn w v2 z) (hz0 : z ≠ 0) (hf1 : blen y.natAbs ≤ 1125899906810000) (hf2 : blen z.natAbs ≤ 1125899906810000) :
    Calls Tryz.prog 49 #[v1, v2] w (ZnDone2 w (neq y z) (y - neq y z * z)) := by
  obtain ⟨b, a, n, k, rfl, hb, hn, hz⟩ := h1.parts
  obtain ⟨b2, a2, n2, k2, rfl, hb2, hn2, hz2⟩ := h2.parts
  obtain ⟨w0, hw0, hb0, c0, c1, c2, c3⟩ := enter4 w (.cells #[.bool b, .slice a n k] 39) (.cells #[.bool b2, .slice a2 n2 k2] 39) (.cells #[.bool false, .slice none 0 0] 39) (.cells #[.bool false, .slice none 0 0] 39)
  obtain ⟨d0, d1⟩ := duo c0
  obtain ⟨d2, d3⟩ := duo c1
  have HD := rzfloor_any _ _ y z w0 (h1.below hb0) (h2.below hb0) hz0 hf1 hf2
  have HB0 := hide hb0
  have HC0 := hide c0
  have HC1 := hide c1
  have HC2 := hide c2
  have HC3 := hide c3
  have HZ1 := hide (h1.below hb0)
  have HZ2 := hide (h2.below hb0)
  have hfq := flq_few y z
  have hdq := Nat.div_le_self y.natAbs z.natAbs
  have hbq := blen_next (x := y.natAbs) (q := (flq y z).natAbs) (k := 1) (by omega) (by omega)
  clear h1 h2 hn hn2 hb0 c0 c1 c2 c3 hb hb2 hz hz2
  have HQB : Hid (blen (neq y z).natAbs + blen z.natAbs ≤ 1125899906840000) := hide (by
    have h := quo_room (x := y.natAbs) (y := z.natAbs) (q := (neq y z).natAbs) (k := 2) (by omega) (by unfold neq; split <;> omega) (by omega) hf1 hf2
    omega)
  have hbr : blen (y - flq y z * z).natAbs + 1 ≤ 1125899906840000 := by
    have e1 : (y - flq y z * z).natAbs ≤ y.natAbs + (flq y z * z).natAbs := Int.natAbs_sub_le _ _
    have hqr := quo_room (x := y.natAbs) (y := z.natAbs) (q := (flq y z).natAbs) (k := 1) (by omega) (by omega) (by omega) hf1 hf2
    obtain ⟨N9, hN9⟩ : ∃ N9, N9 = 1125899906810000 + 5 := ⟨_, rfl⟩
    have e2 : blen (flq y z * z).natAbs ≤ N9 := by
      rw [Int.natAbs_mul]
      have := blen_mulW (flq y z).natAbs z.natAbs
      omega
    have e3 : blen (y.natAbs + (flq y z * z).natAbs) ≤ N9 + 1 := blen_plusW (by omega) e2
    have := blen_mono e1
    omega
  obtain ⟨nc, hnc⟩ : ∃ nc, nearC y z = nc := ⟨_, rfl⟩
  have hneq : neq y z = if nc then flq y z + 1 else flq y z := by unfold neq; rw [hnc]
  have HNEQ := hide hneq
  have HNC := hide hnc
  clear hneq hnc
  go_enter Tryz.func49, Tryz.ntmps49
  go_wp2_with fail
  refine HD.mono ?_
  rintro e t1 ⟨⟨bx, ax, mx, kx, br0, ar0, mr0, kr0, rfl, zq, zr⟩, g1⟩
  obtain ⟨u2, hu2, hbu2, hxu, hyu⟩ := enter2 t1 (.cells #[.bool bx, .slice ax mx kx] 39) (.cells #[.bool br0, .slice ar0 mr0 kr0] 39)
  have HG1 := hide g1
  have HU2 := hide hbu2
  have gu := bl_trans6 g1 hbu2
  have hbd : Below u2.heap.size u2 u2.drew := (Below.refl _ _).drew
  obtain ⟨x0, x1⟩ := duo (show u2.drew.heap[t1.heap.size + 1]? = some (.cells #[.bool br0, .slice ar0 mr0 kr0] 39) from hyu)
  obtain ⟨x2, x3⟩ := duo (block_upW (bl_trans6 gu hbd) HC1.out)
  have SH := rshl_any _ (y - flq y z * z).natAbs 1 u2.drew ((zr.below hbu2).inv9.2.below hbd) (by omega)
  have CM := hide (fun (W : World) (v : Value) (hg : Below u2.drew.heap.size u2.drew W) (hv : Num W v ((y - flq y z * z).natAbs * 2 ^ 1)) => rcmp_any v _ _ z.natAbs W hv ((((HZ2.out.below gu).inv9.2).below hbd).below hg))
  have HZQ := hide (zq.below hbu2)
  have HXU := hide hxu
  clear HD d0 d1 d2 d3 zq zr hbu2 hxu hyu g1
  go_wp2
  go_region_held3 (fun w' => w'.cell? ⟨t1.heap.size + 1, 0, none⟩ = some (.bool br0) ∧ w'.cell? ⟨t1.heap.size + 1, 1, none⟩ = some (.slice ar0 mr0 kr0) ∧ w'.cell? ⟨w.heap.size + 1, 0, none⟩ = some (.bool b2) ∧ w'.cell? ⟨w.heap.size + 1, 1, none⟩ = some (.slice a2 n2 k2)) (go_keep) (first
    | (go_at_call 45; refine SH.mono ?_; rintro e' s1 ⟨⟨vs, rfl, ns⟩, hs1⟩; have y0 := cell_up6 hs1 x0; have y1 := cell_up6 hs1 x1; have y2 := cell_up6 hs1 x2; have y3 := cell_up6 hs1 x3)
    | (go_at_call 77; refine (CM.out s1 _ hs1 ns).mono ?_; rintro e' s2 ⟨rfl, hsame⟩; have hs2 : Below s1.heap.size s1 s2 := hsame.below _; have q0 := cell_up6 hs2 y0; have q1 := cell_up6 hs2 y1; have q2 := cell_up6 hs2 y2; have q3 := cell_up6 hs2 y3))
  have gs := bl_trans6 (below_undrew6 hs1) hs2
  obtain ⟨t3, ht3⟩ : ∃ t3, s2 = t3 := ⟨_, rfl⟩
  rw [ht3] at gs ⊢
  have g3 := gs
  have HG3 := hide (bl_trans6 HU2.out g3)
  have HX3 := hide (block_upW g3 HXU.out)
  have HZ3 := hide (HZQ.out.below g3)
  obtain ⟨p0, p1⟩ := duo HX3.out
  have BT := rbit_any _ (flq y z).natAbs 0 t3 HZ3.out.inv9.2 (by omega)
  rw [Nat.pow_zero, Nat.div_one] at BT
  (try rw [Nat.pow_one])
  clear hs1 hs2 hsame q0 q1 q2 q3 y0 y1 y2 y3 x0 x1 x2 x3 SH CM ns gs ht3 hu2 gu hbd
  obtain ⟨cc, hcc⟩ : ∃ cc : Int, cmpN ((y - flq y z * z).natAbs * 2) z.natAbs = cc := ⟨_, rfl⟩
  rw [hcc]
  have HNC2 : Hid (nc = (decide (z.natAbs < (y - flq y z * z).natAbs * 2) || (decide ((y - flq y z * z).natAbs * 2 = z.natAbs) && decide ((flq y z).natAbs % 2 = 1)))) := hide (by rw [← HNC.out]; rfl)
  generalize (y - flq y z * z).natAbs * 2 = rr at *
  obtain ⟨bt, hbt, hbt2⟩ : ∃ bt : Nat, (flq y z).natAbs % 2 = bt ∧ bt < 2 := ⟨_, rfl, by omega⟩
  rw [hbt] at BT
  rw [hbt] at HNC2
  go_upto_region 3 with fail
  go_cut [32] from 21 to 33 (fun s wx => s = .bool nc ∧ wx = t3)
  case first =>
    by_cases hA : z.natAbs < rr
    · have hc1 : cc = 1 := by rw [← hcc]; unfold cmpN; rw [if_neg (by omega), if_pos hA]
      subst hc1
      have hn1 : nc = true := by rw [HNC2.out, decide_eq_true hA]; rfl
      clear hcc
      go_wp2_with fail
      go_meet
      exact ⟨by rw [hn1], rfl⟩
    · by_cases hB : rr = z.natAbs
      · have hc1 : cc = 0 := by rw [← hcc]; unfold cmpN; rw [if_neg (by omega), if_neg hA]
        subst hc1
        have hn1 : nc = decide (bt = 1) := by rw [HNC2.out, decide_eq_false hA, decide_eq_true hB]; rfl
        have hd : decide (bt = 1) = ((bt : Int) == 1) := by
          rcases (show bt = 0 ∨ bt = 1 by omega) with h | h <;> subst h <;> rfl
        have HN1 := hide (hn1.trans hd)
        clear hcc hn1 hd hbt hB hA
        go_wp2_with fail
        refine BT.mono ?_
        rintro e wn ⟨rfl, hw⟩; rw [hw]; clear hw wn
        go_wp2
        go_meet
        exact ⟨by rw [HN1.out], rfl⟩
      · have hc1 : cc = -1 := by rw [← hcc]; exact cmpN_lt (by omega)
        subst hc1
        have hn1 : nc = false := by rw [HNC2.out, decide_eq_false hA, decide_eq_false hB]; rfl
        clear hcc
        go_wp2_with fail
        go_meet
        exact ⟨by rw [hn1], rfl⟩
  case rest =>
    obtain ⟨rfl, rfl⟩ := hcut
    clear BT HNC2 HNC hcc hbt hbt2
    have HWS : Hid (wc = wc) := hide rfl
    cases nc
    · have hfq : neq y z = flq y z := by rw [HNEQ.out]; rfl
      have ZXF0 := HZ3.out
      rw [← hfq] at ZXF0
      have ZXF := ZXF0
      have BXF := HX3.out
      obtain ⟨bX, rfl⟩ : ∃ bX, bX = bx := ⟨_, rfl⟩
      obtain ⟨aX, rfl⟩ : ∃ aX, aX = ax := ⟨_, rfl⟩
      obtain ⟨mX, rfl⟩ : ∃ mX, mX = mx := ⟨_, rfl⟩
      obtain ⟨kX, rfl⟩ : ∃ kX, kX = kx := ⟨_, rfl⟩
      have gwc := bl_trans6 HG1.out HG3.out
      clear ZXF0 hfq p0 p1
      have hbd : Below wc.heap.size wc wc.drew := (Below.refl _ _).drew
      have gd := bl_trans6 gwc hbd
      obtain ⟨j0, j1⟩ := duo (block_upW gd HC0.out)
      obtain ⟨j2, j3⟩ := duo (block_upW gd HC1.out)
      have hxd := block_upW hbd BXF
      obtain ⟨j4, j5⟩ := duo hxd
      have ZX := hide (ZXF.below hbd)
      have HMU := rzmul_any _ _ (neq y z) z wc.drew ZX.out (HZ2.out.below gd) (by have := HQB.out; omega)
      have HSU := hide (fun (W : World) (v : Value) (hg : Below wc.drew.heap.size wc.drew W) (hv : Zn W v (neq y z * z)) => rzsub_any (.agg #[.bool b, .slice a n k]) v y (neq y z * z) W ((HZ1.out.below gd).below hg) hv (by omega) (by have h1 := HQB.out; rw [Int.natAbs_mul]; have h2 := blen_mulW (neq y z).natAbs z.natAbs; omega))
      have hr2 := block_upW gd HC2.out
      have hr3 := block_upW gd HC3.out
      have HR2 := hide hr2
      have HR3 := hide hr3
      have HGD := hide (bl_trans6 HB0.out gd)
      have hlx : w.heap.size + 3 < t1.heap.size := lt_of_block (block_upW HG1.out HC3.out)
      have so0 : ∀ (W : World) (k : Nat) (u : Value) (k' : Nat), (W.setCell ⟨w.heap.size + 2, k, none⟩ u).cell? ⟨w.heap.size, k', none⟩ = W.cell? ⟨w.heap.size, k', none⟩ := fun W k u k' => cell_otherW (by omega)
      have so1 : ∀ (W : World) (k : Nat) (u : Value) (k' : Nat), (W.setCell ⟨w.heap.size + 2, k, none⟩ u).cell? ⟨w.heap.size + 1, k', none⟩ = W.cell? ⟨w.heap.size + 1, k', none⟩ := fun W k u k' => cell_otherW (by omega)
      have so2 : ∀ (W : World) (k : Nat) (u : Value) (k' : Nat), (W.setCell ⟨w.heap.size + 2, k, none⟩ u).cell? ⟨t1.heap.size, k', none⟩ = W.cell? ⟨t1.heap.size, k', none⟩ := fun W k u k' => cell_otherW (by omega)
      have so3 : ∀ (W : World) (k : Nat) (u : Value) (k' : Nat), (W.setCell ⟨w.heap.size + 2, k, none⟩ u).cell? ⟨w.heap.size + 3, k', none⟩ = W.cell? ⟨w.heap.size + 3, k', none⟩ := fun W k u k' => cell_otherW (by omega)
      have sp0 : ∀ (W : World) (k : Nat) (u : Value) (k' : Nat), (W.setCell ⟨w.heap.size + 3, k, none⟩ u).cell? ⟨w.heap.size, k', none⟩ = W.cell? ⟨w.heap.size, k', none⟩ := fun W k u k' => cell_otherW (by omega)
      have sp1 : ∀ (W : World) (k : Nat) (u : Value) (k' : Nat), (W.setCell ⟨w.heap.size + 3, k, none⟩ u).cell? ⟨w.heap.size + 1, k', none⟩ = W.cell? ⟨w.heap.size + 1, k', none⟩ := fun W k u k' => cell_otherW (by omega)
      have sp2 : ∀ (W : World) (k : Nat) (u : Value) (k' : Nat), (W.setCell ⟨w.heap.size + 3, k, none⟩ u).cell? ⟨t1.heap.size, k', none⟩ = W.cell? ⟨t1.heap.size, k', none⟩ := fun W k u k' => cell_otherW (by omega)
      clear hr2 hr3 hxd
      go_wp2
      go_region_held3 (fun w' => w'.cell? ⟨w.heap.size, 0, none⟩ = some (.bool b) ∧ w'.cell? ⟨w.heap.size, 1, none⟩ = some (.slice a n k) ∧ w'.cell? ⟨w.heap.size + 1, 0, none⟩ = some (.bool b2) ∧ w'.cell? ⟨w.heap.size + 1, 1, none⟩ = some (.slice a2 n2 k2) ∧ w'.cell? ⟨t1.heap.size, 0, none⟩ = some (.bool bX) ∧ w'.cell? ⟨t1.heap.size, 1, none⟩ = some (.slice aX mX kX)) (go_keep) (first
        | (go_at_call 76; refine HMU.mono ?_; rintro e' s1 ⟨⟨bp, ap, mp, kp, rfl, yp⟩, hs1⟩; have l0 := cell_up6 hs1 j0; have l1 := cell_up6 hs1 j1; have l2 := cell_up6 hs1 j2; have l3 := cell_up6 hs1 j3; have l4 := cell_up6 hs1 j4; have l5 := cell_up6 hs1 j5)
        | (go_at_call 75; refine (HSU.out s1 _ hs1 yp).mono ?_; rintro e' s2 ⟨⟨br, ar9, mr9, kr9, rfl, yr⟩, hs2⟩; have q0 := cell_up6 hs2 l0; have q1 := cell_up6 hs2 l1; have q2 := cell_up6 hs2 l2; have q3 := cell_up6 hs2 l3; have q4 := cell_up6 hs2 l4; have q5 := cell_up6 hs2 l5; have hz2 := block_upW hs2 (block_upW hs1 HR2.out); have hz3 := block_upW hs2 (block_upW hs1 HR3.out); have hf2' := duof hz2; have hf3' := duof hz3; obtain ⟨m0, m1⟩ := duo hz2; obtain ⟨m2, m3⟩ := duo hz3))
      have gs := bl_trans6 hs1 hs2
      have hq4 := quadZ (g := w.heap.size + 2) (b1 := bX) (u1 := .slice aX mX kX) (b2 := br) (u2 := .slice ar9 mr9 kr9) hz2 hz3
      have HE := hide (And.intro (hq4.2.2 _ _ (ZX.out.below gs)) (And.intro (hq4.2.2 _ _ yr) (quad_below (bl_trans6 HGD.out gs) (g := w.heap.size + 2) (u0 := .bool bX) (u1 := .slice aX mX kX) (u2 := .bool br) (u3 := .slice ar9 mr9 kr9) (by omega))))
      obtain ⟨R5, R6, _⟩ := hq4
      clear so0 so1 so2 so3 sp0 sp1 sp2 hz2 hz3 hf2' hf3' m0 m1 m2 m3 q0 q1 q2 q3 q4 q5 l0 l1 l2 l3 l4 l5 yr yp hs1 hs2 gs
      generalize (((s2.setCell ⟨w.heap.size + 2, 0, none⟩ (.bool bX)).setCell ⟨w.heap.size + 2, 1, none⟩ (.slice aX mX kX)).setCell ⟨w.heap.size + 2 + 1, 0, none⟩ (.bool br)).setCell ⟨w.heap.size + 2 + 1, 1, none⟩ (.slice ar9 mr9 kr9) = w5 at *
      obtain ⟨p0, p1⟩ := duo R5
      obtain ⟨p2, p3⟩ := duo R6
      go_wp2
      refine bodyPost_ret (v := .tuple #[.agg #[.bool bX, .slice aX mX kX], .agg #[.bool br, .slice ar9 mr9 kr9]]) (by simp [results, Tryz.results49, go_sem, p0, p1, p2, p3]) rfl ?_
      exact ⟨⟨_, _, _, _, _, _, _, _, rfl, HE.out.1, HE.out.2.1⟩, HE.out.2.2⟩
    · have HFQ : Hid (neq y z = flq y z + 1) := hide (by rw [HNEQ.out]; rfl)
      have I1 := rzint_any 1 wc.drew (by omega) (by omega)
      have hb1 : blen (Int.natAbs 1) ≤ 64 := by decide
      have S1 := hide (fun (W : World) (v : Value) (hg : Below wc.drew.heap.size wc.drew W) (hv : Zn W v 1) => rzadd_any (.agg #[.bool bx, .slice ax mx kx]) v (flq y z) 1 W (HZ3.out.drew6.below hg) hv (by omega) (by omega))
      obtain ⟨x0, x1⟩ := duo (show wc.drew.heap[t1.heap.size]? = some (.cells #[.bool bx, .slice ax mx kx] 39) from HX3.out)
      clear p0 p1
      obtain ⟨t3, ht3⟩ : ∃ t3, wc = t3 := ⟨_, rfl⟩
      rw [ht3] at HG3 HX3 HZ3 I1 S1 x0 x1 ⊢
      clear ht3 HWS
      go_upto_region 4 with fail
      go_cut [33] from 33 to 36 (fun _ wx => ∃ (bX : Bool) (aX : Option Addr) (mX kX : Nat), wx.heap[t1.heap.size]? = some (.cells #[.bool bX, .slice aX mX kX] 39) ∧ Zn wx (.agg #[.bool bX, .slice aX mX kX]) (neq y z) ∧ Below t1.heap.size t1 wx)
      case first =>
        go_region_with (first
          | (go_at_call 68; refine I1.mono ?_; rintro e' s1 ⟨⟨bi, ai, mi, ki, rfl, yi⟩, hs1⟩; have y0 := cell_up6 hs1 x0; have y1 := cell_up6 hs1 x1)
          | (go_at_call 69; refine (S1.out s1 _ hs1 yi).mono ?_; rintro e' s2 ⟨⟨bs, as9, ms, ks, rfl, ys⟩, hs2⟩; have hzx := block_upW hs2 (block_upW hs1 (show t3.drew.heap[t1.heap.size]? = some (.cells #[.bool bx, .slice ax mx kx] 39) from HX3.out)); have hfx := duof hzx; obtain ⟨w0', w1'⟩ := duo hzx))
        all_goals (go_wp2_with fail; go_meet)
        all_goals (refine ⟨bs, as9, ms, ks, duo_all hzx, ?_, below_duo (bl_trans6 (bl_trans6 HG3.out (Below.refl _ _).drew) (bl_trans6 hs1 hs2)) (Nat.le_refl _)⟩; rw [HFQ.out]; exact ys.duo hzx)
      case rest =>
        obtain ⟨bX, aX, mX, kX, BXF, ZXF, gx⟩ := hcut
        have gwc := bl_trans6 HG1.out gx
        have hbd : Below wc.heap.size wc wc.drew := (Below.refl _ _).drew
        have gd := bl_trans6 gwc hbd
        obtain ⟨j0, j1⟩ := duo (block_upW gd HC0.out)
        obtain ⟨j2, j3⟩ := duo (block_upW gd HC1.out)
        have hxd := block_upW hbd BXF
        obtain ⟨j4, j5⟩ := duo hxd
        have ZX := hide (ZXF.below hbd)
        have HMU := rzmul_any _ _ (neq y z) z wc.drew ZX.out (HZ2.out.below gd) (by have := HQB.out; omega)
        have HSU := hide (fun (W : World) (v : Value) (hg : Below wc.drew.heap.size wc.drew W) (hv : Zn W v (neq y z * z)) => rzsub_any (.agg #[.bool b, .slice a n k]) v y (neq y z * z) W ((HZ1.out.below gd).below hg) hv (by omega) (by have h1 := HQB.out; rw [Int.natAbs_mul]; have h2 := blen_mulW (neq y z).natAbs z.natAbs; omega))
        have hr2 := block_upW gd HC2.out
        have hr3 := block_upW gd HC3.out
        have HR2 := hide hr2
        have HR3 := hide hr3
        have HGD := hide (bl_trans6 HB0.out gd)
        have hlx : w.heap.size + 3 < t1.heap.size := lt_of_block (block_upW HG1.out HC3.out)
        have so0 : ∀ (W : World) (k : Nat) (u : Value) (k' : Nat), (W.setCell ⟨w.heap.size + 2, k, none⟩ u).cell? ⟨w.heap.size, k', none⟩ = W.cell? ⟨w.heap.size, k', none⟩ := fun W k u k' => cell_otherW (by omega)
        have so1 : ∀ (W : World) (k : Nat) (u : Value) (k' : Nat), (W.setCell ⟨w.heap.size + 2, k, none⟩ u).cell? ⟨w.heap.size + 1, k', none⟩ = W.cell? ⟨w.heap.size + 1, k', none⟩ := fun W k u k' => cell_otherW (by omega)
        have so2 : ∀ (W : World) (k : Nat) (u : Value) (k' : Nat), (W.setCell ⟨w.heap.size + 2, k, none⟩ u).cell? ⟨t1.heap.size, k', none⟩ = W.cell? ⟨t1.heap.size, k', none⟩ := fun W k u k' => cell_otherW (by omega)
        have so3 : ∀ (W : World) (k : Nat) (u : Value) (k' : Nat), (W.setCell ⟨w.heap.size + 2, k, none⟩ u).cell? ⟨w.heap.size + 3, k', none⟩ = W.cell? ⟨w.heap.size + 3, k', none⟩ := fun W k u k' => cell_otherW (by omega)
        have sp0 : ∀ (W : World) (k : Nat) (u : Value) (k' : Nat), (W.setCell ⟨w.heap.size + 3, k, none⟩ u).cell? ⟨w.heap.size, k', none⟩ = W.cell? ⟨w.heap.size, k', none⟩ := fun W k u k' => cell_otherW (by omega)
        have sp1 : ∀ (W : World) (k : Nat) (u : Value) (k' : Nat), (W.setCell ⟨w.heap.size + 3, k, none⟩ u).cell? ⟨w.heap.size + 1, k', none⟩ = W.cell? ⟨w.heap.size + 1, k', none⟩ := fun W k u k' => cell_otherW (by omega)
        have sp2 : ∀ (W : World) (k : Nat) (u : Value) (k' : Nat), (W.setCell ⟨w.heap.size + 3, k, none⟩ u).cell? ⟨t1.heap.size, k', none⟩ = W.cell? ⟨t1.heap.size, k', none⟩ := fun W k u k' => cell_otherW (by omega)
        clear hr2 hr3 hxd
        go_wp2
        go_region_held3 (fun w' => w'.cell? ⟨w.heap.size, 0, none⟩ = some (.bool b) ∧ w'.cell? ⟨w.heap.size, 1, none⟩ = some (.slice a n k) ∧ w'.cell? ⟨w.heap.size + 1, 0, none⟩ = some (.bool b2) ∧ w'.cell? ⟨w.heap.size + 1, 1, none⟩ = some (.slice a2 n2 k2) ∧ w'.cell? ⟨t1.heap.size, 0, none⟩ = some (.bool bX) ∧ w'.cell? ⟨t1.heap.size, 1, none⟩ = some (.slice aX mX kX)) (go_keep) (first
          | (go_at_call 76; refine HMU.mono ?_; rintro e' s1 ⟨⟨bp, ap, mp, kp, rfl, yp⟩, hs1⟩; have l0 := cell_up6 hs1 j0; have l1 := cell_up6 hs1 j1; have l2 := cell_up6 hs1 j2; have l3 := cell_up6 hs1 j3; have l4 := cell_up6 hs1 j4; have l5 := cell_up6 hs1 j5)
          | (go_at_call 75; refine (HSU.out s1 _ hs1 yp).mono ?_; rintro e' s2 ⟨⟨br, ar9, mr9, kr9, rfl, yr⟩, hs2⟩; have q0 := cell_up6 hs2 l0; have q1 := cell_up6 hs2 l1; have q2 := cell_up6 hs2 l2; have q3 := cell_up6 hs2 l3; have q4 := cell_up6 hs2 l4; have q5 := cell_up6 hs2 l5; have hz2 := block_upW hs2 (block_upW hs1 HR2.out); have hz3 := block_upW hs2 (block_upW hs1 HR3.out); have hf2' := duof hz2; have hf3' := duof hz3; obtain ⟨m0, m1⟩ := duo hz2; obtain ⟨m2, m3⟩ := duo hz3))
        have gs := bl_trans6 hs1 hs2
        have hq4 := quadZ (g := w.heap.size + 2) (b1 := bX) (u1 := .slice aX mX kX) (b2 := br) (u2 := .slice ar9 mr9 kr9) hz2 hz3
        have HE := hide (And.intro (hq4.2.2 _ _ (ZX.out.below gs)) (And.intro (hq4.2.2 _ _ yr) (quad_below (bl_trans6 HGD.out gs) (g := w.heap.size + 2) (u0 := .bool bX) (u1 := .slice aX mX kX) (u2 := .bool br) (u3 := .slice ar9 mr9 kr9) (by omega))))
        obtain ⟨R5, R6, _⟩ := hq4
        clear so0 so1 so2 so3 sp0 sp1 sp2 hz2 hz3 hf2' hf3' m0 m1 m2 m3 q0 q1 q2 q3 q4 q5 l0 l1 l2 l3 l4 l5 yr yp hs1 hs2 gs
        generalize (((s2.setCell ⟨w.heap.size + 2, 0, none⟩ (.bool bX)).setCell ⟨w.heap.size + 2, 1, none⟩ (.slice aX mX kX)).setCell ⟨w.heap.size + 2 + 1, 0, none⟩ (.bool br)).setCell ⟨w.heap.size + 2 + 1, 1, none⟩ (.slice ar9 mr9 kr9) = w5 at *
        obtain ⟨p0, p1⟩ := duo R5
        obtain ⟨p2, p3⟩ := duo R6
        go_wp2
        refine bodyPost_ret (v := .tuple #[.agg #[.bool bX, .slice aX mX kX], .agg #[.bool br, .slice ar9 mr9 kr9]]) (by simp [results, Tryz.results49, go_sem, p0, p1, p2, p3]) rfl ?_
        exact ⟨⟨_, _, _, _, _, _, _, _, rfl, HE.out.1, HE.out.2.1⟩, HE.out.2.2⟩

end Go.Proofs.YtolebfnkmjmfnaaGreatDoor

namespace Go.Proofs.YtolebfnkmjmfnaaGreatDoor
open Go.RowKit
open Lm

/-- An odd number's rest by a step. -/
theorem odd_rest {x s : Nat} (h : x % 2 = 1) (hs : 0 < s) : x % 2 ^ s ≠ 0 ∧ x % 2 ^ s % 2 = 1 := by
  obtain ⟨t, rfl⟩ : ∃ t, s = t + 1 := ⟨s - 1, by omega⟩
  have h1 : x % 2 ^ (t + 1) % 2 = x % 2 := Nat.mod_mod_of_dvd _ ⟨2 ^ t, by rw [Nat.pow_succ, Nat.mul_comm]⟩
  rw [h] at h1
  exact ⟨by omega, h1⟩

/-- The highest bit that is dropped. -/
theorem half_bit (x s : Nat) (hs : 0 < s) : x / 2 ^ (s - 1) % 2 = 1 ↔ 2 ^ s ≤ x % 2 ^ s * 2 := by
  obtain ⟨t, rfl⟩ : ∃ t, s = t + 1 := ⟨s - 1, by omega⟩
  rw [Nat.add_sub_cancel]
  have h1 := Nat.div_add_mod x (2 ^ (t + 1))
  have h2 := Nat.mod_lt x (Nat.two_pow_pos (t + 1))
  generalize x / 2 ^ (t + 1) = q at *
  generalize x % 2 ^ (t + 1) = r at *
  have hp := Nat.two_pow_pos t
  have e : 2 ^ (t + 1) = 2 ^ t * 2 := Nat.pow_succ ..
  rw [e] at h1 h2 ⊢
  generalize 2 ^ t = H at *
  have h3 : x / H = 2 * q + r / H := by
    rw [← h1, Nat.mul_assoc, Nat.mul_add_div hp]
  rw [h3]
  by_cases hr : r < H
  · rw [Nat.div_eq_of_lt hr]; omega
  · have : r / H = 1 := by
      rw [Nat.div_eq_iff hp]
      omega
    rw [this]; omega

theorem zz_lt {b : Bool} {x : Nat} (h : x ≠ 0) : decide (zz b x < 0) = b := by
  cases b
  · simp [zz]
  · simp only [zz, if_true, decide_eq_true_eq]; omega

theorem two_pow_int (s : Nat) : (((2 ^ s : Nat) : Int)).natAbs = 2 ^ s ∧ decide (((2 ^ s : Nat) : Int) < 0) = false := by
  have := Nat.two_pow_pos s
  exact ⟨by omega, by rw [decide_eq_false]; omega⟩

theorem flq_pow (b : Bool) (x s : Nat) (hx : x % 2 = 1) (hs : 0 < s) : flq (zz b x) ((2 ^ s : Nat) : Int) = zz b (x / 2 ^ s) - if b then 1 else 0 := by
  unfold flq
  rw [(two_pow_int s).1, (two_pow_int s).2, zz_abs, zz_lt (by omega), decide_eq_true (odd_rest hx hs).1]
  cases b <;> simp

/-- The rest of that. -/
theorem flq_rest (b : Bool) (x s : Nat) (hx : x % 2 = 1) (hs : 0 < s) : zz b x - flq (zz b x) ((2 ^ s : Nat) : Int) * ((2 ^ s : Nat) : Int) = if b then (2 ^ s : Nat) - ((x % 2 ^ s : Nat) : Int) else ((x % 2 ^ s : Nat) : Int) := by
  rw [flq_pow b x s hx hs]
  have h1 := Nat.div_add_mod x (2 ^ s)
  generalize x / 2 ^ s = q at *
  generalize x % 2 ^ s = r at *
  generalize 2 ^ s = P at *
  have h2 : (x : Int) = (P : Int) * (q : Int) + (r : Int) := by rw [← h1]; simp
  cases b
  · show (x : Int) - ((q : Int) - 0) * (P : Int) = (r : Int)
    rw [h2, Int.sub_zero, Int.mul_comm]; omega
  · show -(x : Int) - (-(q : Int) - 1) * (P : Int) = (P : Int) - (r : Int)
    rw [h2, Int.sub_mul, Int.neg_mul, Int.one_mul, Int.mul_comm (q : Int)]; omega

theorem rq_floor (b : Bool) (x s : Nat) (hx : x % 2 = 1) (hs : 0 < s) : flq (zz b x) ((2 ^ s : Nat) : Int) = zz b (rq b x s 0) := by
  rw [flq_pow b x s hx hs]
  unfold rq ga
  rw [if_pos rfl]
  generalize x / 2 ^ s = q
  cases b <;> simp [zz]; omega

theorem rq_ceil (b : Bool) (x s : Nat) (hx : x % 2 = 1) (hs : 0 < s) : ceq (zz b x) ((2 ^ s : Nat) : Int) = zz b (rq b x s 1) := by
  unfold ceq
  rw [flq_rest b x s hx hs, flq_pow b x s hx hs]
  have h0 := (odd_rest hx hs).1
  have h2 := Nat.mod_lt x (Nat.two_pow_pos s)
  have hga : ga b x s 1 = !b := by unfold ga; rw [if_neg (by decide), if_pos rfl]
  unfold rq
  rw [hga]
  generalize x / 2 ^ s = q
  generalize x % 2 ^ s = r at *
  generalize 2 ^ s = P at *
  cases b
  · have e1 : (if false = true then (P : Int) - (r : Int) else (r : Int)) = (r : Int) := by simp
    rw [e1, if_neg (by omega)]
    simp [zz]
  · have e1 : (if true = true then (P : Int) - (r : Int) else (r : Int)) = (P : Int) - (r : Int) := by simp
    rw [e1, if_neg (by omega)]
    simp [zz]

theorem rq_near (b : Bool) (x s : Nat) (hx : x % 2 = 1) (hs : 0 < s) : neq (zz b x) ((2 ^ s : Nat) : Int) = zz b (rq b x s 2) := by
  have hr := flq_rest b x s hx hs
  have hq := flq_pow b x s hx hs
  have h0 := (odd_rest hx hs).2
  have h2 := Nat.mod_lt x (Nat.two_pow_pos s)
  have hb := half_bit x s hs
  have hP : (((2 ^ s : Nat) : Int)).natAbs = 2 ^ s := (two_pow_int s).1
  have hg : ga b x s 2 = decide (2 ^ s < x % 2 ^ s * 2 ∨ (x % 2 ^ s * 2 = 2 ^ s ∧ x / 2 ^ s % 2 = 1)) := by
    unfold ga
    rw [if_neg (by decide), if_neg (by decide)]
    by_cases h1 : s = 1
    · subst h1
      rw [if_pos rfl]
      refine decide_eq_decide.2 ?_
      have e1 : (2 : Nat) ^ 1 = 2 := rfl
      rw [e1] at h2 ⊢
      omega
    · rw [if_neg h1]
      refine decide_eq_decide.2 (hb.trans ?_)
      obtain ⟨t, rfl⟩ : ∃ t, s = t + 2 := ⟨s - 2, by omega⟩
      have e2 : 2 ^ (t + 2) = 2 ^ t * 4 := Nat.pow_add 2 t 2
      rw [e2] at h0 h2 ⊢
      generalize x / (2 ^ t * 4) = q
      generalize x % (2 ^ t * 4) = r at *
      generalize 2 ^ t = T at *
      omega
  unfold neq nearC rq
  rw [hr, hq, hg, hP]
  generalize x / 2 ^ s = q at *
  generalize x % 2 ^ s = r at *
  generalize 2 ^ s = P at *
  clear hr hq hg hP hb
  cases b
  · have e1 : (if false = true then (P : Int) - (r : Int) else (r : Int)) = (r : Int) := by simp
    have e2 : zz false q - (if false = true then (1 : Int) else 0) = (q : Int) := by simp [zz]
    rw [e1, e2, Int.natAbs_natCast, Int.natAbs_natCast]
    have e3 : (decide (P < r * 2) || (decide (r * 2 = P) && decide (q % 2 = 1))) = decide (P < r * 2 ∨ (r * 2 = P ∧ q % 2 = 1)) := by simp
    rw [e3]
    by_cases hc : P < r * 2 ∨ (r * 2 = P ∧ q % 2 = 1)
    · rw [decide_eq_true hc]; simp [zz]
    · rw [decide_eq_false hc]; simp [zz]
  · have e1 : (if true = true then (P : Int) - (r : Int) else (r : Int)) = ((P - r : Nat) : Int) := by rw [if_pos rfl]; omega
    have e2 : zz true q - (if true = true then (1 : Int) else 0) = -((q + 1 : Nat) : Int) := by simp [zz]; omega
    rw [e1, e2, Int.natAbs_natCast, Int.natAbs_neg, Int.natAbs_natCast]
    have e3 : (decide (P < (P - r) * 2) || (decide ((P - r) * 2 = P) && decide ((q + 1) % 2 = 1))) = !decide (P < r * 2 ∨ (r * 2 = P ∧ q % 2 = 1)) := by
      rw [← Bool.decide_and, ← Bool.decide_or, ← decide_not]
      refine decide_eq_decide.2 ?_
      omega
    rw [e3]
    by_cases hc : P < r * 2 ∨ (r * 2 = P ∧ q % 2 = 1)
    · rw [decide_eq_true hc]; simp [zz]
    · rw [decide_eq_false hc]; simp [zz]; omega

/-- Far below a step. -/
theorem rq_far (b : Bool) (x s : Nat) (m : Int) (h : blen x + 2 < s) (hm : m = 0 ∨ m = 1 ∨ m = 2) : rq b x s m = if (m = 0 ∧ b = true) ∨ (m = 1 ∧ b = false) then 1 else 0 := by
  have h1 : x < 2 ^ blen x := (blen_le_iff x _).1 (Nat.le_refl _)
  have h2 : x / 2 ^ s = 0 := Nat.div_eq_of_lt (Nat.lt_of_lt_of_le h1 (Nat.pow_le_pow_right (by omega) (by omega)))
  have h3 : x / 2 ^ (s - 1) = 0 := Nat.div_eq_of_lt (Nat.lt_of_lt_of_le h1 (Nat.pow_le_pow_right (by omega) (by omega)))
  unfold rq ga
  rw [h2, h3]
  rcases hm with rfl | rfl | rfl
  · cases b <;> simp
  · cases b <;> simp
  · have : ¬ s = 1 := by omega
    simp [this]

/-- A mantissa and an exponent that are normal. -/
def Norm8 (M E : Int) : Prop := (M = 0 ∧ E = 0) ∨ M.natAbs % 2 = 1

theorem Norm8.stay {M E : Int} (h : Norm8 M E) : omz M = M ∧ oe M E = E := by
  rcases h with ⟨rfl, rfl⟩ | h
  · exact ⟨omz_zero, by simp [oe]⟩
  · exact omz_odd h E

/-- What is rounded: its mantissa and its exponent, not normal yet. -/
def rndM (M E pos m : Int) : Int := if M = 0 ∨ pos ≤ E then M else zz (decide (M < 0)) (rq (decide (M < 0)) M.natAbs (pos - E).toNat m)
def rndE (M E pos : Int) : Int := if M = 0 ∨ pos ≤ E then E else pos

end Go.Proofs.YtolebfnkmjmfnaaGreatDoor
