/- Package nat: Sub. -/
import Derived.Test.YtmloigbacfllhaaDoorNatD
namespace Go.Proofs.YtmloigbacfllhaaDoor
open Go.RowKit
open Lm
attribute [local go_sem ↓] Go.wp_at_zero Go.wp_at_succ

theorem sub64 (x y b : Nat) (hb : b ≤ 1) (w : World) :
    (callFunc 65 #[.int .u64 x, .int .u64 y, .int .u64 b]).run Tryd.prog w =
      .ok (.value (.tuple #[.int .u64 (((x + 18446744073709551616 - y - b) % 18446744073709551616 : Nat) : Int), .int .u64 ((bor x y b : Nat) : Int)])) w := by
  rw [run_callFunc_extern Tryd.func65 (by kernel_rfl) (by kernel_rfl) (by kernel_rfl) (e := sub64Entry) (by kernel_rfl), run_sub64 x y b hb]
  rfl

theorem bor_le (x y b : Nat) : bor x y b ≤ 1 := by unfold bor; split <;> omega

theorem sub_end {Z Y out : List Nat} (ho : Limbs out) (hl : out.length = Z.length) (hyl : Y.length ≤ Z.length) (hle : val Y ≤ val Z) (bw : Nat) (_hbw : bw ≤ 1)
    (h : val (out.take Z.length) + val (Y.take Z.length) = val (Z.take Z.length) + bw * 18446744073709551616 ^ Z.length) : val out = val Z - val Y := by
  rw [List.take_of_length_le (by omega), List.take_of_length_le (by omega), List.take_length] at h
  have h1 := val_lt ho
  rw [hl] at h1
  rcases Nat.eq_zero_or_pos bw with h0 | h0
  · subst h0; omega
  · have e : bw = 1 := by omega
    subst e
    omega

set_option maxRecDepth 20000 in
set_option maxHeartbeats 800000 in
theorem sub_any (v1 v2 : Value) (zs ys : List Nat) (w : World) (h1 : Arg w v1 zs) (h2 : Arg w v2 ys) (f1 : zs.length ≤ 35184372088831) :
    Calls Tryd.prog 50 #[v1, v2] w fun e w' => Below w.heap.size w w' ∧
      ((val zs < val ys ∧ e = .returned (.tuple #[.slice none 0 0, .int .i64 10])) ∨ (val ys ≤ val zs ∧ Res w' w.heap.size e (val zs - val ys))) := by
  have HC := compare_any v1 v2 zs ys w h1 h2
  by_cases hlt : val zs < val ys
  · rw [cmpN_lt hlt] at HC
    obtain ⟨a1, c1, rfl, hc1, hm1, hl1⟩ := h1.form
    obtain ⟨a2, c2, rfl, hc2, hm2, hl2⟩ := h2.form
    clear hl1 hl2 h1 h2
    have HX : Hid (val zs < val ys) := hlt
    clear hlt
    go_enter Tryd.func50, Tryd.ntmps50
    go_wp2_with fail
    refine HC.mono ?_
    rintro e w1 ⟨rfl, hs⟩
    go_wp2
    go_ret2
    exact ⟨hs.below _, .inl ⟨HX.out, rfl⟩⟩
  · have hcm : (0 : Int) ≤ cmpN (val zs) (val ys) := by
      rcases cmpN_range (val zs) (val ys) with h | h | h <;> omega
    have hcr : cmpN (val zs) (val ys) ≤ 1 := by
      rcases cmpN_range (val zs) (val ys) with h | h | h <;> omega
    have HX : Hid (val ys ≤ val zs) := Nat.le_of_not_lt hlt
    have HLen : Hid ((tr ys).length ≤ (tr zs).length) := by
      refine Nat.le_of_not_lt fun h => ?_
      have := shorter_lt h1.limbs h
      rw [val_tr, val_tr] at this
      exact hlt this
    clear hlt
    generalize cmpN (val zs) (val ys) = cc at *
    obtain ⟨i0, hi, hz0, hz1, hz2⟩ := info_parts Tryd.infoU
    obtain ⟨a1, c1, rfl, hc1, hm1, hl1⟩ := h1.form
    obtain ⟨a2, c2, rfl, hc2, hm2, hl2⟩ := h2.form
    have M1 := limbs_tr h1.limbs
    have M2 := limbs_tr h2.limbs
    have l1 := tr_length_le zs
    have l2 := tr_length_le ys
    go_enter Tryd.func50, Tryd.ntmps50
    go_wp2_with fail
    refine HC.mono ?_
    rintro e w1 ⟨rfl, hs⟩
    have H1 := trim_any a1 c1 zs w1 hc1 hm1 (hl1.below (hs.below _))
    have H2 := trim_any a2 c2 ys w1 hc2 hm2 (hl2.below (hs.below _))
    have L1 := (hl1.below (hs.below _)).tr
    have L2 := (hl2.below (hs.below _)).tr
    have HS : Hid (Below w.heap.size w w1 ∧ w1.heap.size = w.heap.size) := ⟨hs.below _, hs.size⟩
    clear hs HC
    go_wp2_with fail
    refine H1.mono ?_
    rintro e w' ⟨rfl, rfl⟩
    go_wp2_with fail
    refine H2.mono ?_
    rintro e w' ⟨rfl, rfl⟩
    clear H1 H2
    go_wp2_with (at_make; refine wpList_make_full _ rfl _ _ 23 rfl w'.heap.size 38 i0 (.int .u64 0) 1 Tryd.underlying23 hi hz0 hz1 .i64 .i64 _ _ (tr zs).length rfl rfl (by omega) (by omega) (by rw [hz2]; omega) (by unfold maxLen; omega) (Nat.le_refl _) ?_; intro wm hown hgrow)
    have hb1 := Blk.made hown
    have hbel : Below w'.heap.size w' wm := (Below.refl _ _).grown hgrow (Nat.le_refl _) (fun k hk => by cases hk)
    clear hown hgrow hi hz0 hz1 hz2
    go_loopw [7, 22] (fun c i wr => ∃ (k cy : Nat) (out : List Nat), k ≤ (tr zs).length ∧ i = .int .i64 k ∧ c = .int .u64 cy ∧ cy ≤ 1 ∧ out.length = (tr zs).length ∧ Limbs out ∧ Blk wr w'.heap.size out ∧ Below w'.heap.size w' wr ∧
        val (out.take k) + val ((tr ys).take k) = val ((tr zs).take k) + cy * 18446744073709551616 ^ k) (fun _ i _ => (tr zs).length - (intOf i).toNat)
    case atStart => exact ⟨0, 0, _, Nat.zero_le _, rfl, rfl, by omega, by simp, limbs_replicate _, hb1, hbel, by simp [val]⟩
    case round =>
      obtain ⟨k, cy, out, hk, rfl, rfl, hcy, hlen, hlo, hblk, hbl, hval⟩ := hrel
      clear hb1 hbel
      have HV : Hid (val (out.take k) + val ((tr ys).take k) = val ((tr zs).take k) + cy * 18446744073709551616 ^ k) := hval
      clear hval
      have HB : Hid (Blk wr w'.heap.size out) := hblk
      have HL : Hid (Below w'.heap.size w' wr) := hbl
      by_cases hkl : k < (tr zs).length
      · rcases L1.below hbl with h0 | ⟨b, off, rfl, hcell⟩
        · simp [h0] at hkl
        · have H42 := limb_any a2 c2 (tr ys) k wr.drew (by omega) hm2 (L2.below hbl.drew)
          have hck := hcell k hkl
          have hbw := Lies.block (L1 : Lies w' (some ⟨b, off, none⟩) (tr zs)) (by omega)
          have hne1 : ¬ b = w'.heap.size := by omega
          have hne2 : ¬ w'.heap.size = b := by omega
          have hfr := hblk.free k
          have hco := hblk.cell k (by omega)
          have ha := sub64 ((tr zs).getD k 0) ((tr ys).getD k 0) cy hcy
          have z1 := limb_lt M1 k
          have z2 := limb_lt M2 k
          have hst := sub_step (tr zs) (tr ys) out k cy (by omega) z1 z2 hcy HV.out
          have hd1 := bor_le ((tr zs).getD k 0) ((tr ys).getD k 0) cy
          generalize bor ((tr zs).getD k 0) ((tr ys).getD k 0) cy = d at *
          generalize (tr zs).getD k 0 = x at *
          generalize (tr ys).getD k 0 = y at *
          generalize out.getD k 0 = o at *
          have hs1 : (x + 18446744073709551616 - y - cy) % 18446744073709551616 < 18446744073709551616 := Nat.mod_lt _ (by omega)
          generalize (x + 18446744073709551616 - y - cy) % 18446744073709551616 = s at *
          have HS' : Hid (val ((out.set k s).take (k + 1)) + val ((tr ys).take (k + 1)) = val ((tr zs).take (k + 1)) + d * 18446744073709551616 ^ (k + 1)) := hst
          clear hst hcell hblk hbl HV L1 L2 M1 M2 hl1 hl2 h1 h2
          have hi1 : (0 : Int) ≤ (k : Int) := by omega
          have hi2 : (k : Int) < ((tr zs).length : Int) := by omega
          go_wp2
          go_region_held3 (fun w' => w'.cell? ⟨b, off + k, none⟩ = some (.int .u64 x)) (go_keep) (first | (go_at_call 46; refine H42.mono ?_; rintro e w2 ⟨rfl, rfl⟩))
          go_wp2
          go_roundw
          case rel => exact ⟨k + 1, d, out.set k s, by omega, by go_num, rfl, hd1, by simp; omega, limbs_set hlo _ _ hs1, HB.out.set k s, (HL.out.setCell (Nat.le_refl _) _).drew, HS'.out⟩
          case measure => simp [intOf]; omega
      · have ek : k = (tr zs).length := by omega
        subst ek
        have HA := answer_blk _ w'.heap.size _ _ hblk hlo (Nat.le_refl _) (by omega)
        have hvl : val out = val zs - val ys := by
          have := sub_end hlo hlen HLen.out (by rw [val_tr, val_tr]; exact HX.out) cy hcy HV.out
          rw [val_tr, val_tr] at this; exact this
        rw [hlen, hvl] at HA
        clear hvl hblk hbl HV L1 L2 M1 M2 hl1 hl2 h1 h2 HB hlo
        go_wp2_with fail
        refine HA.mono ?_
        rintro e w2 ⟨rfl, hres⟩
        unfold Res at hres
        obtain ⟨v, c, rs, rfl, hans, hcase⟩ := hres
        rw [HS.out.2] at hans
        have HX2 : Hid (Ans _ w.heap.size v rs ∧ ((c = 0 ∧ val rs = val zs - val ys ∧ tr rs = rs ∧ blen (val zs - val ys) ≤ 67108864) ∨ (c = 3 ∧ rs = [] ∧ 67108864 < blen (val zs - val ys)))) := ⟨hans, hcase⟩
        clear hans hcase
        go_wp2
        go_ret2
        refine ⟨HS.out.1.trans ?_, .inr ⟨HX.out, v, c, rs, rfl, HX2.out⟩⟩
        have := HL.out
        rw [HS.out.2] at this
        exact this

end Go.Proofs.YtmloigbacfllhaaDoor
