/- The reference's numbers: Mul. -/
import Derived.Test.YtmloigbacfllhaaDoorRefH
import Derived.Test.YtmloigbacfllhaaDoorP35
namespace Go.Proofs.YtmloigbacfllhaaDoor
open Go.RowKit
open Lm
attribute [local go_sem ↓] Go.wp_at_zero Go.wp_at_succ

theorem getD_set_ne (out : List Nat) (j n z : Nat) (h : j ≠ n) : (out.set j z).getD n 0 = out.getD n 0 := by
  simp [List.getD, h]

theorem num_len32 {ds : List Nat} (hd : Digs 4294967296 ds) (ht : tr ds = ds) : ds.length * 32 ≤ blen (vb 4294967296 ds) + 31 := by
  rcases Nat.eq_zero_or_pos ds.length with h | h
  · omega
  · obtain ⟨m, hm⟩ : ∃ m, ds.length = m + 1 := ⟨ds.length - 1, by omega⟩
    have h1 := blen_vb hd ht m hm
    have h2 := blen_half _ (tr_last' ds m ht hm)
    omega

set_option maxRecDepth 20000 in
set_option maxHeartbeats 1000000 in
theorem rmul_any (v1 v2 : Value) (x y : Nat) (w : World) (h1 : Num w v1 x) (h2 : Num w v2 y) (hf : blen x + blen y ≤ 1125899906840000) :
    Calls Tryd.prog 53 #[v1, v2] w fun e w' => (∃ v', e = .returned v' ∧ Num w' v' (x * y)) ∧ Below w.heap.size w w' := by
  obtain ⟨X, A1, hX, hXt, rfl, _⟩ := h1
  obtain ⟨Y, A2, hY, hYt, rfl, _⟩ := h2
  have lX := num_len32 hX hXt
  have lY := num_len32 hY hYt
  have lXY : X.length + Y.length ≤ 35184372088752 := by omega
  obtain ⟨a1, c1, rfl, hc1, hm1, L1⟩ := A1.form
  obtain ⟨a2, c2, rfl, hc2, hm2, L2⟩ := A2.form
  obtain ⟨i0, hi, hz0, hz1, hz2⟩ := info_parts Tryd.infoU
  clear hf hXt hYt lX lY A1 A2
  obtain ⟨N, hN1, hN2, eN⟩ : ∃ N, N ≤ X.length + Y.length + 1 ∧ X.length + Y.length + 1 ≤ N ∧ (X.length : Int) + (Y.length : Int) + 1 = (N : Int) := ⟨X.length + Y.length + 1, by omega, by omega, by omega⟩
  go_enter Tryd.func53, Tryd.ntmps53
  go_wp2_with (at_make; refine wpList_make_full _ rfl _ _ 26 rfl w.heap.size 38 i0 (.int .u64 0) 1 Tryd.underlying26 hi hz0 hz1 .i64 .i64 _ _ N rfl rfl (by omega) (by omega) (by rw [hz2]; omega) (by unfold maxLen; omega) (Nat.le_refl _) ?_; intro w1 hown hgrow)
  have hb1 := Blk.made hown
  have hbel : Below w.heap.size w w1 := (Below.refl _ _).grown hgrow (Nat.le_refl _) (fun k hk => by cases hk)
  clear hown hgrow hi hz0 hz1 hz2
  go_loopw [21] (fun i wr => ∃ (k : Nat) (out : List Nat), k ≤ X.length ∧ i = .int .i64 k ∧ out.length = N ∧ out.getD (X.length + Y.length) 0 = 0 ∧ Digs 4294967296 out ∧ Blk wr w.heap.size out ∧ Below w.heap.size w wr ∧
      vb 4294967296 (out.take (k + Y.length)) = vb 4294967296 (X.take k) * vb 4294967296 Y) (fun i _ => X.length - (intOf i).toNat)
  case atStart => exact ⟨0, _, Nat.zero_le _, rfl, by simp, getD_zeros _ _, digs_replicate (by omega) _, hb1, hbel, by rw [List.take_replicate, vb_zeros]; simp [vb]⟩
  case round =>
    obtain ⟨k, out, hk, rfl, hlen, htop, hdo, hblk, hbl, hval⟩ := hrel
    clear hb1 hbel
    have HT := hide htop
    by_cases hkl : k < X.length
    · rcases L1.below hbl with h0 | ⟨b, off, rfl, hcell⟩
      · rw [h0] at hkl; simp at hkl
      · have hck := hcell k hkl
        have z1 := dig_lt (by omega) hX k
        have HX : Hid (X.getD k 0 = X.getD k 0) := rfl
        obtain ⟨x, hx⟩ : ∃ x, x = X.getD k 0 := ⟨_, rfl⟩
        rw [← hx] at hck z1
        have HXX := hide hx
        have HV := hide hval
        have HB := hide hblk
        have HL := hide hbl
        have HY := hide hY
        clear hx htop hval hblk hbl hcell L1 hX HX hY
        go_wp2
        go_loopw [8, 28] (fun c i wr2 => ∃ (j cy : Nat) (out2 : List Nat), j ≤ Y.length ∧ i = .int .i64 j ∧ c = .int .u64 cy ∧ cy < 4294967296 ∧ out2.length = N ∧ out2.getD (X.length + Y.length) 0 = 0 ∧ Digs 4294967296 out2 ∧ Blk wr2 w.heap.size out2 ∧ Below w.heap.size w wr2 ∧
            vb 4294967296 (out2.take (k + Y.length)) + cy * 4294967296 ^ (k + j) = vb 4294967296 (out.take (k + Y.length)) + 4294967296 ^ k * (x * vb 4294967296 (Y.take j))) (fun _ i _ => Y.length - (intOf i).toNat)
        case atStart => exact ⟨0, 0, out, Nat.zero_le _, rfl, rfl, by omega, hlen, HT.out, hdo, HB.out, HL.out, by simp [vb]⟩
        case round =>
          obtain ⟨j, cy, out2, hj, rfl, rfl, hcy, hlen2, htop2, hdo2, hblk, hbl, hval2⟩ := hrel
          have HT2 := hide htop2
          clear htop2
          by_cases hjl : j < Y.length
          · rcases L2.below hbl with h0 | ⟨b2, off2, rfl, hcell⟩
            · rw [h0] at hjl; simp at hjl
            · have hcj := hcell j hjl
              have hbw := Lies.block (L2 : Lies w (some ⟨b2, off2, none⟩) Y) (by omega)
              have hne1 : ¬ b2 = w.heap.size := by omega
              have hne2 : ¬ w.heap.size = b2 := by omega
              have z2 := dig_lt (by omega) HY.out j
              have hfr := hblk.free (k + j)
              have hco := hblk.cell (k + j) (by omega)
              have z3 := dig_lt (by omega) hdo2 (k + j)
              obtain ⟨bP, bS⟩ := rmul_fit x (Y.getD j 0) (out2.getD (k + j) 0) cy z1 z2 z3 hcy
              have HV2 := hide (rmul_step 4294967296 Y out2 k j (k + Y.length) x cy _ _ (by omega) (by omega) hval2 rfl)
              generalize Y.getD j 0 = y at *
              generalize out2.getD (k + j) 0 = o at *
              have e0 : (x : Int) * (y : Int) = ((x * y : Nat) : Int) := by push_cast; rfl
              generalize x * y = P at *
              have e1 : (P : Int) + (o : Int) = ((P + o : Nat) : Int) := by omega
              have b1 : P + o < 18446744073709551616 := by omega
              generalize P + o = S1 at *
              have e2 : (S1 : Int) + (cy : Int) = ((S1 + cy : Nat) : Int) := by omega
              generalize S1 + cy = S at *
              have e3 : (S : Int) % 4294967296 = ((S % 4294967296 : Nat) : Int) := by omega
              have e4 : (S : Int) / 4294967296 = ((S / 4294967296 : Nat) : Int) := by omega
              have bm : S % 4294967296 < 4294967296 := by omega
              have bd : S / 4294967296 < 4294967296 := by omega
              generalize S % 4294967296 = m at *
              generalize S / 4294967296 = d at *
              have HB2 := hide hblk
              have HL2 := hide hbl
              clear hval2 hblk hbl hcell L2 HB HL HV
              go_wp2
              go_roundw
              case rel => exact ⟨j + 1, d, out2.set (k + j) m, by omega, by go_num, rfl, bd, by simp; omega, by rw [getD_set_ne _ _ _ _ (by omega)]; exact HT2.out, digs_set hdo2 _ _ bm, HB2.out.set (k + j) m, HL2.out.setCell (Nat.le_refl _) _, HV2.out⟩
              case measure => simp [intOf]; omega
          · have ej : j = Y.length := by omega
            subst ej
            have HV3 := hide (rmul_round 4294967296 X Y out out2 k x cy HXX.out (by omega) HV.out hval2)
            have hfr := hblk.free (k + Y.length)
            have hco := hblk.cell (k + Y.length) (by omega)
            generalize out2.getD (k + Y.length) 0 = o at *
            have HB2 := hide hblk
            have HL2 := hide hbl
            clear hval2 hblk hbl L2 HB HL HV
            go_wp2
            go_roundw
            case rel => exact ⟨k + 1, out2.set (k + Y.length) cy, by omega, by go_num, by simp; omega, by rw [getD_set_ne _ _ _ _ (by omega)]; exact HT2.out, digs_set hdo2 _ _ hcy, HB2.out.set _ cy, HL2.out.setCell (Nat.le_refl _) _, HV3.out⟩
            case measure => simp [intOf]; omega
    · have ek : k = X.length := by omega
      subst ek
      have hA := Ans.of_blk (base := w.heap.size) (zs := out) (Nat.le_refl _) hblk List.take_length.symm (Nat.le_refl _) (by omega) (digs_limbs hdo)
      have H := norm_any _ _ _ (hA.arg (by omega)) hdo (by omega)
      have HL := hide hbl
      have hve : vb 4294967296 out = vb 4294967296 X * vb 4294967296 Y := by
        rw [List.take_length] at hval
        rw [← hval, ← vb_full (X.length + Y.length + 1) (by omega : out.length ≤ _), vb_take_next, htop]; simp
      rw [hlen, hve] at H
      clear hval hblk hbl hX hY hA hve L1 L2
      go_wp2_with fail
      refine H.mono ?_
      rintro e w2 ⟨⟨v', rfl, hnum⟩, rfl⟩
      have HN := hide hnum
      clear hnum H
      go_wp2
      go_ret
      exact ⟨⟨v', rfl, HN.out⟩, HL.out⟩

end Go.Proofs.YtmloigbacfllhaaDoor
