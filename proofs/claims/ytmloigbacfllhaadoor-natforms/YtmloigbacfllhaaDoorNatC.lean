/- Package nat: Add. -/
import Derived.Test.YtmloigbacfllhaaDoorNatB
import Derived.Deep.RegionHeld3
import Derived.Deep.DrawnRows
namespace Go.Proofs.YtmloigbacfllhaaDoor
open Go.RowKit
open Lm
attribute [local go_sem ↓] Go.wp_at_zero Go.wp_at_succ

set_option maxHeartbeats 800000 in
theorem add_any (v1 v2 : Value) (zs ys : List Nat) (w : World) (h1 : Arg w v1 zs) (h2 : Arg w v2 ys) (f1 : zs.length ≤ 35184372088831) (f2 : ys.length ≤ 35184372088831) :
    Calls Tryd.prog 49 #[v1, v2] w fun e w' => Below w.heap.size w w' ∧ Res w' w.heap.size e (val zs + val ys) := by
  obtain ⟨a1, c1, rfl, hc1, hm1, hl1⟩ := h1.form
  obtain ⟨a2, c2, rfl, hc2, hm2, hl2⟩ := h2.form
  have H1 := trim_any a1 c1 zs w hc1 hm1 hl1
  have H2 := trim_any a2 c2 ys w hc2 hm2 hl2
  have l1 := tr_length_le zs
  have l2 := tr_length_le ys
  have L1 := hl1.tr
  have L2 := hl2.tr
  have M1 := limbs_tr h1.limbs
  have M2 := limbs_tr h2.limbs
  rw [← val_tr zs, ← val_tr ys]
  obtain ⟨i0, hi, hz0, hz1, hz2⟩ := info_parts Tryd.infoU
  generalize tr zs = Z at *
  generalize tr ys = Y at *
  by_cases hlt : Z.length < Y.length
  · rw [Nat.add_comm (val Z) (val Y)]
    go_enter Tryd.func49, Tryd.ntmps49
    go_wp2_with fail
    refine H1.mono ?_
    rintro e w' ⟨rfl, rfl⟩
    go_wp2_with fail
    refine H2.mono ?_
    rintro e w' ⟨rfl, rfl⟩
    clear H1 H2
    go_wp2_with (at_make; refine wpList_make_full _ rfl _ _ 23 rfl w'.heap.size 38 i0 (.int .u64 0) 1 Tryd.underlying23 hi hz0 hz1 .i64 .i64 _ _ (Y.length + 1) rfl rfl (by omega) (by omega) (by rw [hz2]; omega) (by unfold maxLen; omega) (Nat.le_refl _) ?_; intro w1 hown hgrow)
    have hb1 := Blk.made hown
    have hbel : Below w'.heap.size w' w1 := (Below.refl _ _).grown hgrow (Nat.le_refl _) (fun k hk => by cases hk)
    clear hown hgrow hi hz0 hz1 hz2
    go_loopw [7, 26] (fun c i wr => ∃ (k cy : Nat) (out : List Nat), k ≤ Y.length ∧ i = .int .i64 k ∧ c = .int .u64 cy ∧ cy ≤ 1 ∧ out.length = Y.length + 1 ∧ Limbs out ∧ Blk wr w'.heap.size out ∧ Below w'.heap.size w' wr ∧
        val (out.take k) + cy * 18446744073709551616 ^ k = val (Y.take k) + val (Z.take k)) (fun _ i _ => Y.length - (intOf i).toNat)
    case atStart => exact ⟨0, 0, _, Nat.zero_le _, rfl, rfl, by omega, by simp, limbs_replicate _, hb1, hbel, by simp [val]⟩
    case round =>
      obtain ⟨k, cy, out, hk, rfl, rfl, hcy, hlen, hlo, hblk, hbl, hval⟩ := hrel
      clear hb1 hbel
      have HV : Hid (val (out.take k) + cy * 18446744073709551616 ^ k = val (Y.take k) + val (Z.take k)) := hval
      clear hval
      have HB : Hid (Blk wr w'.heap.size out) := hblk
      have HL : Hid (Below w'.heap.size w' wr) := hbl
      have H42 := limb_any a1 c1 Z k wr.drew (by omega) hm1 (L1.below hbl.drew)
      by_cases hkl : k < Y.length
      · rcases L2.below hbl with h0 | ⟨b, off, rfl, hcell⟩
        · simp [h0] at hkl
        · have hck := hcell k hkl
          have hbw := Lies.block (L2 : Lies w' (some ⟨b, off, none⟩) Y) (by omega)
          have hne1 : ¬ b = w'.heap.size := by omega
          have hne2 : ¬ w'.heap.size = b := by omega
          have hfr := hblk.free k
          have hco := hblk.cell k (by omega)
          have ha := add64 (Y.getD k 0) (Z.getD k 0) cy hcy
          have hst := add_step Y Z out k cy (by omega) HV.out
          have HS : Hid (val ((out.set k ((Y.getD k 0 + Z.getD k 0 + cy) % 18446744073709551616)).take (k + 1)) + (Y.getD k 0 + Z.getD k 0 + cy) / 18446744073709551616 * 18446744073709551616 ^ (k + 1) = val (Y.take (k + 1)) + val (Z.take (k + 1))) := hst
          have z1 := limb_lt M2 k
          have z2 := limb_lt M1 k
          clear hst hcell hblk hbl HV L2 L1 M2 M1 hl1 hl2 h1 h2
          generalize Y.getD k 0 = x at *
          generalize Z.getD k 0 = y at *
          generalize out.getD k 0 = o at *
          have hs1 : (x + y + cy) % 18446744073709551616 < 18446744073709551616 := Nat.mod_lt _ (by omega)
          have hd1 : (x + y + cy) / 18446744073709551616 ≤ 1 := by omega
          generalize (x + y + cy) % 18446744073709551616 = s at *
          generalize (x + y + cy) / 18446744073709551616 = d at *
          have hi1 : (0 : Int) ≤ (k : Int) := by omega
          have hi2 : (k : Int) < (Y.length : Int) := by omega
          have hi3 : (k : Int) < (Y.length : Int) + 1 := by omega
          go_wp2
          go_region_held3 (fun w' => w'.cell? ⟨b, off + k, none⟩ = some (.int .u64 x)) (go_keep) (first | (go_at_call 46; refine H42.mono ?_; rintro e w2 ⟨rfl, rfl⟩))
          go_wp2
          go_roundw
          case rel => exact ⟨k + 1, d, out.set k s, by omega, by go_num, rfl, hd1, by simp; omega, limbs_set hlo _ _ hs1, HB.out.set k s, (HL.out.setCell (Nat.le_refl _) _).drew, HS.out⟩
          case measure => simp [intOf]; omega
      · have ek : k = Y.length := by omega
        subst ek
        have hfr := hblk.free Y.length
        have hco := hblk.cell Y.length (by omega)
        generalize out.getD Y.length 0 = o at *
        have hb2 := hblk.set Y.length cy
        have HA := answer_blk _ w'.heap.size _ _ hb2 (limbs_set hlo _ _ (by omega)) (Nat.le_refl _) (by simp; omega)
        have hvl : val (out.set Y.length cy) = val Y + val Z := by
          have e1 : (out.set Y.length cy).take (Y.length + 1) = out.set Y.length cy := List.take_of_length_le (by simp; omega)
          rw [← e1, take_set_succ _ _ _ (by omega), Nat.mul_comm, HV.out, List.take_length, List.take_of_length_le (by omega)]
        rw [List.length_set, hlen, hvl] at HA
        have HBel : Hid (Below w'.heap.size w' (wr.setCell ⟨w'.heap.size, Y.length, none⟩ (.int .u64 cy))) := hbl.setCell (Nat.le_refl _) _
        clear hvl hb2 hblk hbl HV H42 L2 L1 M2 M1 hl1 hl2 h1 h2 HB HL hlo
        go_wp2_with fail
        refine HA.mono ?_
        rintro e w2 ⟨rfl, hres⟩
        unfold Res at hres
        obtain ⟨v, c, rs, rfl, hans, hcase⟩ := hres
        have HX : Hid (Ans _ w'.heap.size v rs ∧ ((c = 0 ∧ val rs = val Y + val Z ∧ tr rs = rs ∧ blen (val Y + val Z) ≤ 67108864) ∨ (c = 3 ∧ rs = [] ∧ 67108864 < blen (val Y + val Z)))) := ⟨hans, hcase⟩
        clear hans hcase
        go_wp2
        go_ret2
        exact ⟨HBel.out, v, c, rs, rfl, HX.out⟩
  · go_enter Tryd.func49, Tryd.ntmps49
    go_wp2_with fail
    refine H1.mono ?_
    rintro e w' ⟨rfl, rfl⟩
    go_wp2_with fail
    refine H2.mono ?_
    rintro e w' ⟨rfl, rfl⟩
    clear H1 H2
    go_wp2_with (at_make; refine wpList_make_full _ rfl _ _ 23 rfl w'.heap.size 38 i0 (.int .u64 0) 1 Tryd.underlying23 hi hz0 hz1 .i64 .i64 _ _ (Z.length + 1) rfl rfl (by omega) (by omega) (by rw [hz2]; omega) (by unfold maxLen; omega) (Nat.le_refl _) ?_; intro w1 hown hgrow)
    have hb1 := Blk.made hown
    have hbel : Below w'.heap.size w' w1 := (Below.refl _ _).grown hgrow (Nat.le_refl _) (fun k hk => by cases hk)
    clear hown hgrow hi hz0 hz1 hz2
    go_loopw [7, 26] (fun c i wr => ∃ (k cy : Nat) (out : List Nat), k ≤ Z.length ∧ i = .int .i64 k ∧ c = .int .u64 cy ∧ cy ≤ 1 ∧ out.length = Z.length + 1 ∧ Limbs out ∧ Blk wr w'.heap.size out ∧ Below w'.heap.size w' wr ∧
        val (out.take k) + cy * 18446744073709551616 ^ k = val (Z.take k) + val (Y.take k)) (fun _ i _ => Z.length - (intOf i).toNat)
    case atStart => exact ⟨0, 0, _, Nat.zero_le _, rfl, rfl, by omega, by simp, limbs_replicate _, hb1, hbel, by simp [val]⟩
    case round =>
      obtain ⟨k, cy, out, hk, rfl, rfl, hcy, hlen, hlo, hblk, hbl, hval⟩ := hrel
      clear hb1 hbel
      have HV : Hid (val (out.take k) + cy * 18446744073709551616 ^ k = val (Z.take k) + val (Y.take k)) := hval
      clear hval
      have HB : Hid (Blk wr w'.heap.size out) := hblk
      have HL : Hid (Below w'.heap.size w' wr) := hbl
      have H42 := limb_any a2 c2 Y k wr.drew (by omega) hm2 (L2.below hbl.drew)
      by_cases hkl : k < Z.length
      · rcases L1.below hbl with h0 | ⟨b, off, rfl, hcell⟩
        · simp [h0] at hkl
        · have hck := hcell k hkl
          have hbw := Lies.block (L1 : Lies w' (some ⟨b, off, none⟩) Z) (by omega)
          have hne1 : ¬ b = w'.heap.size := by omega
          have hne2 : ¬ w'.heap.size = b := by omega
          have hfr := hblk.free k
          have hco := hblk.cell k (by omega)
          have ha := add64 (Z.getD k 0) (Y.getD k 0) cy hcy
          have hst := add_step Z Y out k cy (by omega) HV.out
          have HS : Hid (val ((out.set k ((Z.getD k 0 + Y.getD k 0 + cy) % 18446744073709551616)).take (k + 1)) + (Z.getD k 0 + Y.getD k 0 + cy) / 18446744073709551616 * 18446744073709551616 ^ (k + 1) = val (Z.take (k + 1)) + val (Y.take (k + 1))) := hst
          have z1 := limb_lt M1 k
          have z2 := limb_lt M2 k
          clear hst hcell hblk hbl HV L1 L2 M1 M2 hl1 hl2 h1 h2
          generalize Z.getD k 0 = x at *
          generalize Y.getD k 0 = y at *
          generalize out.getD k 0 = o at *
          have hs1 : (x + y + cy) % 18446744073709551616 < 18446744073709551616 := Nat.mod_lt _ (by omega)
          have hd1 : (x + y + cy) / 18446744073709551616 ≤ 1 := by omega
          generalize (x + y + cy) % 18446744073709551616 = s at *
          generalize (x + y + cy) / 18446744073709551616 = d at *
          have hi1 : (0 : Int) ≤ (k : Int) := by omega
          have hi2 : (k : Int) < (Z.length : Int) := by omega
          have hi3 : (k : Int) < (Z.length : Int) + 1 := by omega
          go_wp2
          go_region_held3 (fun w' => w'.cell? ⟨b, off + k, none⟩ = some (.int .u64 x)) (go_keep) (first | (go_at_call 46; refine H42.mono ?_; rintro e w2 ⟨rfl, rfl⟩))
          go_wp2
          go_roundw
          case rel => exact ⟨k + 1, d, out.set k s, by omega, by go_num, rfl, hd1, by simp; omega, limbs_set hlo _ _ hs1, HB.out.set k s, (HL.out.setCell (Nat.le_refl _) _).drew, HS.out⟩
          case measure => simp [intOf]; omega
      · have ek : k = Z.length := by omega
        subst ek
        have hfr := hblk.free Z.length
        have hco := hblk.cell Z.length (by omega)
        generalize out.getD Z.length 0 = o at *
        have hb2 := hblk.set Z.length cy
        have HA := answer_blk _ w'.heap.size _ _ hb2 (limbs_set hlo _ _ (by omega)) (Nat.le_refl _) (by simp; omega)
        have hvl : val (out.set Z.length cy) = val Z + val Y := by
          have e1 : (out.set Z.length cy).take (Z.length + 1) = out.set Z.length cy := List.take_of_length_le (by simp; omega)
          rw [← e1, take_set_succ _ _ _ (by omega), Nat.mul_comm, HV.out, List.take_length, List.take_of_length_le (by omega)]
        rw [List.length_set, hlen, hvl] at HA
        have HBel : Hid (Below w'.heap.size w' (wr.setCell ⟨w'.heap.size, Z.length, none⟩ (.int .u64 cy))) := hbl.setCell (Nat.le_refl _) _
        clear hvl hb2 hblk hbl HV H42 L1 L2 M1 M2 hl1 hl2 h1 h2 HB HL hlo
        go_wp2_with fail
        refine HA.mono ?_
        rintro e w2 ⟨rfl, hres⟩
        unfold Res at hres
        obtain ⟨v, c, rs, rfl, hans, hcase⟩ := hres
        have HX : Hid (Ans _ w'.heap.size v rs ∧ ((c = 0 ∧ val rs = val Z + val Y ∧ tr rs = rs ∧ blen (val Z + val Y) ≤ 67108864) ∨ (c = 3 ∧ rs = [] ∧ 67108864 < blen (val Z + val Y)))) := ⟨hans, hcase⟩
        clear hans hcase
        go_wp2
        go_ret2
        exact ⟨HBel.out, v, c, rs, rfl, HX.out⟩
end Go.Proofs.YtmloigbacfllhaaDoor
