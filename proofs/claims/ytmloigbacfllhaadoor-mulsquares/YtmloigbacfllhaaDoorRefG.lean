/- The reference's numbers: Sub; the law's own 'same'. -/
import Derived.Test.YtmloigbacfllhaaDoorRefF
namespace Go.Proofs.YtmloigbacfllhaaDoor
open Go.RowKit
open Lm
attribute [local go_sem ↓] Go.wp_at_zero Go.wp_at_succ

theorem rsub_end {X Y out : List Nat} (ho : Digs 4294967296 out) (hl : out.length = X.length) (hyl : Y.length ≤ X.length) (hle : vb 4294967296 Y ≤ vb 4294967296 X) (bw : Nat)
    (h : vb 4294967296 (out.take X.length) + vb 4294967296 (Y.take X.length) = vb 4294967296 (X.take X.length) + bw * 4294967296 ^ X.length) : vb 4294967296 out = vb 4294967296 X - vb 4294967296 Y := by
  rw [vb_full _ (by omega), vb_full _ hyl, List.take_length] at h
  have h1 := vb_take_lt ho X.length
  rw [vb_full _ (by omega)] at h1
  rcases Nat.eq_zero_or_pos bw with h0 | h0
  · subst h0; omega
  · exfalso
    have := Nat.mul_le_mul_right (4294967296 ^ X.length) h0
    rw [B_pow] at this h
    omega

set_option maxHeartbeats 1000000 in
theorem rsub_new (v1 v2 : Value) (x y : Nat) (w : World) (h1 : Num w v1 x) (h2 : Num w v2 y) (hle : y ≤ x) (f1 : blen x ≤ 1125899906809856) :
    Calls Tryd.prog 73 #[v1, v2] w fun e w' => (∃ v', e = .returned v' ∧ Num w' v' (x - y) ∧ New w.heap.size v') ∧ Below w.heap.size w w' := by
  obtain ⟨X, A1, hX, hXt, rfl, _⟩ := h1
  obtain ⟨Y, A2, hY, hYt, rfl, _⟩ := h2
  have lX := num_len hX hXt 35184372087808 (by omega)
  have hyl : Y.length ≤ X.length := by
    refine Nat.le_of_not_lt fun h => ?_
    have := vb_shorter hX hYt h
    omega
  obtain ⟨a1, c1, rfl, hc1, hm1, L1⟩ := A1.form
  obtain ⟨i0, hi, hz0, hz1, hz2⟩ := info_parts Tryd.infoU
  have HLE := hide hle
  clear f1 hXt hYt hle
  go_enter Tryd.func73, Tryd.ntmps73
  go_wp2_with (at_make; refine wpList_make_full _ rfl _ _ 26 rfl w.heap.size 38 i0 (.int .u64 0) 1 Tryd.underlying26 hi hz0 hz1 .i64 .i64 _ _ X.length rfl rfl (by omega) (by omega) (by rw [hz2]; omega) (by unfold maxLen; omega) (Nat.le_refl _) ?_; intro w1 hown hgrow)
  have hb1 := Blk.made hown
  have hbel : Below w.heap.size w w1 := (Below.refl _ _).grown hgrow (Nat.le_refl _) (fun k hk => by cases hk)
  clear hown hgrow hi hz0 hz1 hz2
  go_loopw [6, 14] (fun c i wr => ∃ (k cy : Nat) (out : List Nat), k ≤ X.length ∧ i = .int .i64 k ∧ c = .int .u64 cy ∧ cy ≤ 1 ∧ out.length = X.length ∧ Digs 4294967296 out ∧ Blk wr w.heap.size out ∧ Below w.heap.size w wr ∧
      vb 4294967296 (out.take k) + vb 4294967296 (Y.take k) = vb 4294967296 (X.take k) + cy * 4294967296 ^ k) (fun _ i _ => X.length - (intOf i).toNat)
  case atStart => exact ⟨0, 0, _, Nat.zero_le _, rfl, rfl, by omega, by simp, digs_replicate (by omega) _, hb1, hbel, by simp [vb]⟩
  case round =>
    obtain ⟨k, cy, out, hk, rfl, rfl, hcy, hlen, hdo, hblk, hbl, hval⟩ := hrel
    clear hb1 hbel
    have HB := hide hblk
    have HL := hide hbl
    by_cases hkl : k < X.length
    · rcases L1.below hbl with h0 | ⟨b, off, rfl, hcell⟩
      · simp [h0] at hkl
      · have H2 := at_any _ Y k wr.drew (A2.below hbl.drew)
        have hck := hcell k hkl
        have hbw := Lies.block (L1 : Lies w (some ⟨b, off, none⟩) X) (by omega)
        have hne1 : ¬ b = w.heap.size := by omega
        have hne2 : ¬ w.heap.size = b := by omega
        have hfr := hblk.free k
        have hco := hblk.cell k (by omega)
        generalize out.getD k 0 = o at *
        have z1 := dig_lt (by omega) hX k
        have z2 := dig_lt (by omega) hY k
        have HV := hide (vb_sub_step X Y out k cy (by omega) z1 z2 hcy hval)
        generalize X.getD k 0 = x at *
        generalize Y.getD k 0 = y at *
        have w1 : IntKind.u64.wrap ((x : Int) + 4294967296) = ((x + 4294967296 : Nat) : Int) := by rw [IntKind.wrap_u64]; omega
        have w2 : IntKind.u64.wrap (((x + 4294967296 : Nat) : Int) - (y : Int)) = ((x + 4294967296 - y : Nat) : Int) := by rw [IntKind.wrap_u64]; omega
        have w3 : IntKind.u64.wrap (((x + 4294967296 - y : Nat) : Int) - (cy : Int)) = ((x + 4294967296 - y - cy : Nat) : Int) := by rw [IntKind.wrap_u64]; omega
        have e0 : (x : Int) + 4294967296 = ((x + 4294967296 : Nat) : Int) := by omega
        have e1 : ((x + 4294967296 : Nat) : Int) - (y : Int) = ((x + 4294967296 - y : Nat) : Int) := by omega
        have e2 : ((x + 4294967296 - y : Nat) : Int) - (cy : Int) = ((x + 4294967296 - y - cy : Nat) : Int) := by omega
        have b0 : x + 4294967296 < 18446744073709551616 := by omega
        have b1 : x + 4294967296 - y < 18446744073709551616 := by omega
        have b2 : x + 4294967296 - y - cy < 18446744073709551616 := by omega
        have e3 : ((x + 4294967296 - y - cy : Nat) : Int) % 4294967296 = (((x + 4294967296 - y - cy) % 4294967296 : Nat) : Int) := by omega
        have e4 : ((x + 4294967296 - y - cy : Nat) : Int) / 4294967296 = (((x + 4294967296 - y - cy) / 4294967296 : Nat) : Int) := by omega
        have b3 : (x + 4294967296 - y - cy) % 4294967296 < 4294967296 := by omega
        have b4 : (x + 4294967296 - y - cy) / 4294967296 ≤ 1 := by omega
        generalize (x + 4294967296 - y - cy) % 4294967296 = m at *
        generalize (x + 4294967296 - y - cy) / 4294967296 = d at *
        generalize x + 4294967296 - y - cy = t3 at *
        generalize x + 4294967296 - y = t2 at *
        generalize x + 4294967296 = t1 at *
        have e5 : (1 : Int) - (d : Int) = ((1 - d : Nat) : Int) := by omega
        have w4 : IntKind.u64.wrap (t1 : Int) = (t1 : Int) := by rw [IntKind.wrap_u64]; omega
        have w5 : IntKind.u64.wrap (t2 : Int) = (t2 : Int) := by rw [IntKind.wrap_u64]; omega
        have w6 : IntKind.u64.wrap (t3 : Int) = (t3 : Int) := by rw [IntKind.wrap_u64]; omega
        have hi1 : (0 : Int) ≤ (k : Int) := by omega
        have hi2 : (k : Int) < (X.length : Int) := by omega
        clear hval hblk hbl A1 A2 hX hY hcell L1
        go_wp2
        go_region_held3 (fun w' => w'.cell? ⟨b, off + k, none⟩ = some (.int .u64 x)) (go_keep) (first | (go_at_call 71; refine H2.mono ?_; rintro e w2 ⟨rfl, rfl⟩))
        go_wp2
        go_roundw
        case rel => exact ⟨k + 1, 1 - d, out.set k m, by omega, by go_num, by go_num, by omega, by simp; omega, digs_set hdo _ _ b3, HB.out.set k m, (HL.out.setCell (Nat.le_refl _) _).drew, HV.out⟩
        case measure => simp [intOf]; omega
    · have ek : k = X.length := by omega
      subst ek
      have hve := rsub_end hdo hlen hyl HLE.out cy hval
      have hA := Ans.of_blk (base := w.heap.size) (zs := out) (Nat.le_refl _) hblk List.take_length.symm (Nat.le_refl _) (by omega) (digs_limbs hdo)
      have H := norm_new w.heap.size _ _ _ (hA.arg (by omega)) hdo (by omega) (New.at _ _ _ _ _ (Nat.le_refl _))
      rw [hlen, hve] at H
      clear hval hblk hbl A1 A2 hX hY hA hve HB L1
      go_wp2_with fail
      refine H.mono ?_
      rintro e w2 ⟨⟨v', rfl, hnum, hnw⟩, rfl⟩
      have HN := hide (And.intro hnum hnw)
      clear hnum hnw H
      go_wp2
      go_ret
      exact ⟨⟨v', rfl, HN.out.1, HN.out.2⟩, HL.out⟩

theorem rsub_any (v1 v2 : Value) (x y : Nat) (w : World) (h1 : Num w v1 x) (h2 : Num w v2 y) (hle : y ≤ x) (f1 : blen x ≤ 1125899906809856) :
    Calls Tryd.prog 73 #[v1, v2] w fun e w' => (∃ v', e = .returned v' ∧ Num w' v' (x - y)) ∧ Below w.heap.size w w' :=
  (rsub_new v1 v2 x y w h1 h2 hle f1).mono fun _ _ ⟨⟨v', h1, h2, _⟩, h3⟩ => ⟨⟨v', h1, h2⟩, h3⟩

end Go.Proofs.YtmloigbacfllhaaDoor
