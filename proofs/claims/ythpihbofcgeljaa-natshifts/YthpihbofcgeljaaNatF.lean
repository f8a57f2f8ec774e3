/- Package nat: mayShift, Left. -/
import Derived.Test.YthpihbofcgeljaaNatD
import Derived.Test.YthpihbofcgeljaaShift
namespace Go.Proofs.Ythpihbofcgeljaa
open Go.RowKit
open Lm

theorem mayShift_yes (n : Int) (w : World) (h0 : 0 ≤ n) (h1 : n ≤ 1099511627776) :
    Calls Try.prog 46 #[.int .i64 n] w fun e w' => e = .returned (.bool true) ∧ w' = w := by
  go_enter Try.func46, Try.ntmps46
  go_wp2
  go_ret
  exact ⟨rfl, rfl⟩

theorem mayShift_no (n : Int) (w : World) (h : n < 0 ∨ 1099511627776 < n) :
    Calls Try.prog 46 #[.int .i64 n] w fun e w' => e = .returned (.bool false) ∧ w' = w := by
  rcases h with h | h
  · go_enter Try.func46, Try.ntmps46
    go_wp2
    go_ret
    exact ⟨rfl, rfl⟩
  · have hd : decide (n ≤ 1099511627776) = false := by simp; omega
    go_enter Try.func46, Try.ntmps46
    go_wp2
    go_ret
    exact ⟨rfl, rfl⟩

theorem left_no (v : Value) (n : Int) (w : World) (h : n < 0 ∨ 1099511627776 < n) :
    Calls Try.prog 18 #[v, .int .i64 n] w fun e w' => e = .returned (.tuple #[.slice none 0 0, .int .i64 1]) ∧ w' = w := by
  have H := mayShift_no n w h
  clear h
  go_enter Try.func18, Try.ntmps18
  go_wp2_with fail
  refine H.mono ?_
  rintro e w' ⟨rfl, rfl⟩
  go_wp2
  go_ret2
  exact ⟨rfl, rfl⟩

set_option maxHeartbeats 800000 in
theorem left_any (v : Value) (zs : List Nat) (n : Nat) (w : World) (h1 : Arg w v zs) (f1 : zs.length ≤ 35184372088831) (hn : n ≤ 1099511627776) :
    Calls Try.prog 18 #[v, .int .i64 n] w fun e w' => Below w.heap.size w w' ∧ Res w' w.heap.size e (val zs * 2 ^ n) := by
  obtain ⟨a1, c1, rfl, hc1, hm1, hl1⟩ := h1.form
  have H0 := mayShift_yes n w (by omega) (by omega)
  have H1 := trim_any a1 c1 zs w hc1 hm1 hl1
  have l1 := tr_length_le zs
  have L1 := hl1.tr
  have M1 := limbs_tr h1.limbs
  have ht := h1.trim
  have H2 := length_val _ _ _ ht
  obtain ⟨i0, hi, hz0, hz1, hz2⟩ := info_parts Try.infoU
  by_cases h0 : tr zs = []
  · have hv : val zs = 0 := by rw [← val_tr, h0]; rfl
    have hln : (tr zs).length = 0 := by rw [h0]; rfl
    rw [hln] at H1
    clear H2 hi hz0 hz1 hz2 L1 M1 ht hl1 h1 h0 hln
    have HV : Hid (val zs = 0) := hv
    clear hv
    go_enter Try.func18, Try.ntmps18
    go_wp2_with fail
    refine H0.mono ?_
    rintro e w' ⟨rfl, rfl⟩
    go_wp2_with fail
    refine H1.mono ?_
    rintro e w' ⟨rfl, rfl⟩
    clear H0 H1
    go_wp2
    go_ret2
    rw [HV.out, Nat.zero_mul]
    exact ⟨Below.refl _ _, _, _, [], rfl, Ans.nil _ _, .inl ⟨rfl, rfl, rfl, by simp [blen]⟩⟩
  · have hpos : 0 < (tr zs).length := List.length_pos_iff.2 h0
    have hvz : val zs ≠ 0 := fun hv => h0 (val_zero (tr_tr zs) (by rw [val_tr]; exact hv))
    rw [val_tr] at H2
    rcases L1 with h' | ⟨b, off, rfl, hcell⟩
    · exact absurd h' h0
    · have hln : (((tr zs).length : Int) == 0) = false := by rw [beq_eq_false_iff_ne]; omega
      have HBL : Hid (blen (val zs * 2 ^ n) = blen (val zs) + n) := blen_shl _ _ hvz
      have hbm : blen (val zs) ≤ zs.length * 64 := (blen_le_iff _ _).2 (by have := val_lt h1.limbs; rwa [W_pow] at this)
      by_cases hbig : blen (val zs) + n ≤ 67108864
      · have hbz : (tr zs).length ≤ 1048576 := few_limbs zs 1048576 (by omega)
        have HVT : Hid (val (tr zs) = val zs) := val_tr zs
        generalize tr zs = Z at *
        obtain ⟨q, s, hs, hnq⟩ : ∃ q s, s < 64 ∧ n = q * 64 + s := ⟨n / 64, n % 64, by omega, by omega⟩
        have eq1 : (n : Int) / 64 = (q : Int) := by omega
        have eq2 : (n : Int) % 64 = (s : Int) := by omega
        have HN : Hid (n = q * 64 + s) := hnq
        have hq : q ≤ 1048576 := by omega
        clear hnq
        clear hl1 h1 ht hvz h0
        go_enter Try.func18, Try.ntmps18
        go_wp2_with fail
        refine H0.mono ?_
        rintro e w' ⟨rfl, rfl⟩
        go_wp2_with fail
        refine H1.mono ?_
        rintro e w' ⟨rfl, rfl⟩
        go_wp2_with fail
        refine H2.mono ?_
        rintro e w' ⟨rfl, rfl⟩
        clear H0 H1 H2
        go_wp2_with (at_make; refine wpList_make_full _ rfl _ _ 23 rfl w'.heap.size 42 i0 (.int .u64 0) 1 Try.underlying23 hi hz0 hz1 .i64 .i64 _ _ (q + Z.length + 1) rfl rfl (by omega) (by omega) (by rw [hz2]; omega) (by unfold maxLen; omega) (Nat.le_refl _) ?_; intro w1 hown hgrow)
        have hb1 := Blk.made hown
        have hbel : Below w'.heap.size w' w1 := (Below.refl _ _).grown hgrow (Nat.le_refl _) (fun k hk => by cases hk)
        clear hown hgrow hi hz0 hz1 hz2
        go_loopw [9, 36] (fun c i wr => ∃ (k cy : Nat) (out : List Nat), k ≤ Z.length ∧ i = .int .i64 k ∧ c = .int .u64 cy ∧ cy < 2 ^ s ∧ out.length = q + Z.length + 1 ∧ Limbs out ∧ Blk wr w'.heap.size out ∧ Below w'.heap.size w' wr ∧
            val (out.take (q + k)) + cy * 18446744073709551616 ^ (q + k) = val (Z.take k) * 2 ^ n) (fun _ i _ => Z.length - (intOf i).toNat)
        case atStart => exact ⟨0, 0, _, Nat.zero_le _, rfl, rfl, Nat.two_pow_pos s, by simp, limbs_replicate _, hb1, hbel, by rw [List.take_replicate, val_replicate]; simp [val]⟩
        case round =>
          obtain ⟨k, cy, out, hk, rfl, rfl, hcy, hlen, hlo, hblk, hbl, hval⟩ := hrel
          clear hb1 hbel
          have HV : Hid (val (out.take (q + k)) + cy * 18446744073709551616 ^ (q + k) = val (Z.take k) * 2 ^ n) := hval
          have HCY : Hid (cy < 2 ^ s) := hcy
          have HB : Hid (Blk wr w'.heap.size out) := hblk
          have HL : Hid (Below w'.heap.size w' wr) := hbl
          have hcw : cy < 18446744073709551616 := Nat.lt_of_lt_of_le hcy (by rw [show (18446744073709551616 : Nat) = 2 ^ 64 from rfl]; exact Nat.pow_le_pow_right (by omega) (by omega))
          clear hval hcy
          by_cases hkl : k < Z.length
          · have hbw : b < w'.heap.size := Lies.block (zs := Z) (.inr ⟨b, off, rfl, hcell⟩) hpos
            have hck : wr.cell? ⟨b, off + k, none⟩ = some (.int .u64 ((Z.getD k 0 : Nat) : Int)) := by rw [hbl.cell (p := ⟨b, off + k, none⟩) hbw]; exact hcell k hkl
            have hfr := hblk.free (q + k)
            have hco := hblk.cell (q + k) (by omega)
            generalize out.getD (q + k) 0 = o at *
            have hne1 : ¬ b = w'.heap.size := by omega
            have hne2 : ¬ w'.heap.size = b := by omega
            have z1 := limb_lt M1 k
            have hst := left_step Z out q s k cy n (by omega) HN.out (by omega) HV.out
            generalize Z.getD k 0 = x at *
            have HS : Hid (val ((out.set (q + k) (shl x s cy)).take (q + (k + 1))) + x / 2 ^ (64 - s) * 18446744073709551616 ^ (q + (k + 1)) = val (Z.take (k + 1)) * 2 ^ n) := hst
            clear hst hblk hbl HV hcell
            go_wp2
            go_roundw
            case rel =>
              rw [walk_shl x s cy (by omega) HCY.out, walk_shr]
              exact ⟨k + 1, x / 2 ^ (64 - s), out.set (q + k) (shl x s cy), by omega, by go_num, rfl, shr_lt x s (by omega) z1, by simp; omega, limbs_set hlo _ _ (shl_lt x s cy (by omega) HCY.out), HB.out.set _ _, HL.out.setCell (Nat.le_refl _) _, HS.out⟩
            case measure => simp [intOf]; omega
          · have ek : k = Z.length := by omega
            subst ek
            have hfr := hblk.free (q + Z.length)
            have hco := hblk.cell (q + Z.length) (by omega)
            generalize out.getD (q + Z.length) 0 = o at *
            have hb2 := hblk.set (q + Z.length) cy
            have hlo2 := limbs_set hlo (q + Z.length) cy hcw
            have hle2 := tr_length_le (out.set (q + Z.length) cy)
            have hlies : Lies (wr.setCell ⟨w'.heap.size, q + Z.length, none⟩ (.int .u64 cy)) (some ⟨w'.heap.size, 0, none⟩) (out.set (q + Z.length) cy) := .inr ⟨w'.heap.size, 0, rfl, fun k hk => by rw [Nat.zero_add]; exact hb2.cell k hk⟩
            have hl2 : (out.set (q + Z.length) cy).length = q + Z.length + 1 := by simp; omega
            have HA := trim_any _ (q + Z.length + 1) _ _ (by omega) (by omega) hlies
            have hvl : val (out.set (q + Z.length) cy) = val zs * 2 ^ n := by
              have e1 : (out.set (q + Z.length) cy).take (q + Z.length + 1) = out.set (q + Z.length) cy := List.take_of_length_le (by omega)
              rw [← e1, take_set_succ _ _ _ (by omega), Nat.mul_comm, HV.out, List.take_length, HVT.out]
            have HR : Hid (Ans (wr.setCell ⟨w'.heap.size, q + Z.length, none⟩ (.int .u64 cy)) w'.heap.size (.slice (some ⟨w'.heap.size, 0, none⟩) (tr (out.set (q + Z.length) cy)).length (q + Z.length + 1)) (tr (out.set (q + Z.length) cy)) ∧ val (tr (out.set (q + Z.length) cy)) = val zs * 2 ^ n ∧ tr (tr (out.set (q + Z.length) cy)) = tr (out.set (q + Z.length) cy)) :=
              ⟨by rw [← hl2]; exact Ans.of_blk (Nat.le_refl _) hb2 (tr_take _) hle2 (by omega) (limbs_tr hlo2), by rw [val_tr, hvl], tr_tr _⟩
            have HBel : Hid (Below w'.heap.size w' (wr.setCell ⟨w'.heap.size, q + Z.length, none⟩ (.int .u64 cy))) := hbl.setCell (Nat.le_refl _) _
            rw [hl2] at HA
            clear hvl hb2 hblk hbl HV HB HL hlo hlo2 hlies hle2
            generalize tr (out.set (q + Z.length) cy) = T at *
            go_wp2_with fail
            refine HA.mono ?_
            rintro e w2 ⟨rfl, rfl⟩
            go_wp2
            go_ret2
            exact ⟨HBel.out, _, _, T, rfl, HR.out.1, .inl ⟨rfl, HR.out.2.1, HR.out.2.2, by rw [HBL.out]; exact hbig⟩⟩
      · clear hi hz0 hz1 hz2 hcell hl1 h1 ht hvz h0 M1
        go_enter Try.func18, Try.ntmps18
        go_wp2_with fail
        refine H0.mono ?_
        rintro e w' ⟨rfl, rfl⟩
        go_wp2_with fail
        refine H1.mono ?_
        rintro e w' ⟨rfl, rfl⟩
        go_wp2_with fail
        refine H2.mono ?_
        rintro e w' ⟨rfl, rfl⟩
        clear H0 H1 H2
        go_wp2
        go_ret2
        exact ⟨Below.refl _ _, _, _, [], rfl, Ans.nil _ _, .inr ⟨rfl, rfl, by rw [HBL.out]; omega⟩⟩

end Go.Proofs.Ythpihbofcgeljaa
