/- Package nat: Right. -/
import Derived.Test.YthpihbofcgeljaaNatG
namespace Go.Proofs.Ythpihbofcgeljaa
open Go.RowKit
open Lm
attribute [local go_sem ↓] Go.wp_at_zero Go.wp_at_succ

theorem right_no (v : Value) (n : Int) (w : World) (h : n < 0 ∨ 1099511627776 < n) :
    Calls Try.prog 19 #[v, .int .i64 n] w fun e w' => e = .returned (.tuple #[.slice none 0 0, .int .i64 1]) ∧ w' = w := by
  have H := mayShift_no n w h
  clear h
  go_enter Try.func19, Try.ntmps19
  go_wp2_with fail
  refine H.mono ?_
  rintro e w' ⟨rfl, rfl⟩
  go_wp2
  go_ret2
  exact ⟨rfl, rfl⟩

set_option maxHeartbeats 800000 in
theorem right_any (v : Value) (zs : List Nat) (n : Nat) (w : World) (h1 : Arg w v zs) (f1 : zs.length ≤ 35184372088831) (hn : n ≤ 1099511627776) :
    Calls Try.prog 19 #[v, .int .i64 n] w fun e w' => Below w.heap.size w w' ∧ Res w' w.heap.size e (val zs / 2 ^ n) := by
  obtain ⟨a1, c1, rfl, hc1, hm1, hl1⟩ := h1.form
  have H0 := mayShift_yes n w (by omega) (by omega)
  have H1 := trim_any a1 c1 zs w hc1 hm1 hl1
  have l1 := tr_length_le zs
  have L1 := hl1.tr
  have M1 := limbs_tr h1.limbs
  obtain ⟨q, s, hs, hnq⟩ : ∃ q s, s < 64 ∧ n = q * 64 + s := ⟨n / 64, n % 64, by omega, by omega⟩
  have eq1 : (n : Int) / 64 = (q : Int) := by omega
  have eq2 : (n : Int) % 64 = (s : Int) := by omega
  have HN : Hid (n = q * 64 + s) := hnq
  have hq : q ≤ 17179869184 := by omega
  obtain ⟨i0, hi, hz0, hz1, hz2⟩ := info_parts Try.infoU
  clear hnq
  by_cases hql : (tr zs).length ≤ q
  · have HV : Hid (val zs / 2 ^ n = 0) := by
      refine hide ?_
      rw [Nat.div_eq_of_lt]
      have := val_lt M1
      rw [val_tr, W_pow] at this
      have h2 : (2 : Nat) ^ ((tr zs).length * 64) ≤ 2 ^ n := Nat.pow_le_pow_right (by omega) (by have := HN.out; omega)
      omega
    clear L1 M1 hl1 h1 hi hz0 hz1 hz2
    generalize tr zs = Z at *
    go_enter Try.func19, Try.ntmps19
    go_wp2_with fail
    refine H0.mono ?_
    rintro e w' ⟨rfl, rfl⟩
    go_wp2_with fail
    refine H1.mono ?_
    rintro e w' ⟨rfl, rfl⟩
    clear H0 H1
    go_wp2
    go_ret2
    rw [HV.out]
    exact ⟨Below.refl _ _, _, _, [], rfl, Ans.nil _ _, .inl ⟨rfl, rfl, rfl, by simp [blen]⟩⟩
  · rcases L1 with h' | ⟨b, off, rfl, hcell⟩
    · simp [h'] at hql
    · have hbw : b < w.heap.size := Lies.block (zs := tr zs) (.inr ⟨b, off, rfl, hcell⟩) (by omega)
      have hcl : (tr zs).length ≤ c1 := by omega
      have hlx : ((tr zs).drop q).length = (tr zs).length - q := by simp
      have HVX : Hid (val ((tr zs).drop q) / 2 ^ s = val zs / 2 ^ n) := by
        refine hide ?_
        rw [val_drop M1 q (by omega), val_tr, Nat.div_div_eq_div_mul, ← Nat.pow_add, ← HN.out]
      have hcx : ∀ k, k < ((tr zs).drop q).length → w.cell? ⟨b, off + q + k, none⟩ = some (.int .u64 ((((tr zs).drop q).getD k 0 : Nat) : Int)) := by
        intro k hk
        have := hcell (q + k) (by omega)
        rw [← Nat.add_assoc] at this
        rw [this]
        simp [List.getD]
      have hlimx : Limbs ((tr zs).drop q) := fun z hz => M1 z (List.mem_of_mem_drop hz)
      clear hcell hl1 h1 M1
      generalize (tr zs).drop q = X at *
      generalize (tr zs).length = m at *
      obtain ⟨d, rfl⟩ : ∃ d, m = q + d := ⟨m - q, by omega⟩
      have hdx : X.length = d := by omega
      subst hdx
      clear hlx
      have hd : decide ((q : Int) + (X.length : Int) ≤ (q : Int)) = false := by simp; omega
      have hxp : 0 < X.length := by omega
      go_enter Try.func19, Try.ntmps19
      go_wp2_with fail
      refine H0.mono ?_
      rintro e w' ⟨rfl, rfl⟩
      go_wp2_with fail
      refine H1.mono ?_
      rintro e w' ⟨rfl, rfl⟩
      clear H0 H1
      go_wp2_with (at_make; refine wpList_make_full _ rfl _ _ 23 rfl w'.heap.size 42 i0 (.int .u64 0) 1 Try.underlying23 hi hz0 hz1 .i64 .i64 _ _ X.length rfl rfl (by omega) (by omega) (by rw [hz2]; omega) (by unfold maxLen; omega) (Nat.le_refl _) ?_; intro w1 hown hgrow)
      have hb1 := Blk.made hown
      have hbel : Below w'.heap.size w' w1 := (Below.refl _ _).grown hgrow (Nat.le_refl _) (fun k hk => by cases hk)
      clear hown hgrow hi hz0 hz1 hz2
      go_loopw [31] (fun i wr => ∃ (k : Nat) (out : List Nat), k ≤ X.length ∧ i = .int .i64 k ∧ out.length = X.length ∧ Limbs out ∧ Blk wr w'.heap.size out ∧ Below w'.heap.size w' wr ∧
          2 ^ s * val (out.take k) + X.getD 0 0 % 2 ^ s = val (X.take k) + X.getD k 0 % 2 ^ s * 18446744073709551616 ^ k) (fun i _ => X.length - (intOf i).toNat)
      case atStart => exact ⟨0, _, Nat.zero_le _, rfl, by simp, limbs_replicate _, hb1, hbel, by simp [val]⟩
      case round =>
        obtain ⟨k, out, hk, rfl, hlen, hlo, hblk, hbl, hval⟩ := hrel
        clear hb1 hbel
        have HV := hide hval
        have HB := hide hblk
        have HL := hide hbl
        clear hval
        by_cases hkl : k < X.length
        · have hck : wr.cell? ⟨b, off + q + k, none⟩ = some (.int .u64 ((X.getD k 0 : Nat) : Int)) := by rw [hbl.cell (p := ⟨b, off + q + k, none⟩) hbw]; exact hcx k hkl
          have hlies : Lies wr.drew (some ⟨b, off + q, none⟩) X := .inr ⟨b, off + q, rfl, fun j hj => by rw [hbl.drew.cell (p := ⟨b, off + q + j, none⟩) hbw]; exact hcx j hj⟩
          have H42 := limb_any (some ⟨b, off + q, none⟩) (c1 - q) X (k + 1) wr.drew (by omega) (by omega) hlies
          rw [show ((k + 1 : Nat) : Int) = (k : Int) + 1 from by omega] at H42
          have hfr := hblk.free k
          have hco := hblk.cell k (by omega)
          have hst := right_step X out s k hs (by omega) HV.out
          have z1 := limb_lt hlimx k
          have hne1 : ¬ b = w'.heap.size := by omega
          have hne2 : ¬ w'.heap.size = b := by omega
          generalize out.getD k 0 = o at *
          have HS := hide hst
          clear hst hlies hblk hbl HV hcx
          generalize hy : X.getD (k + 1) 0 = y at *
          have HY := hide hy
          clear hy
          generalize X.getD k 0 = x at *
          have hi1 : (0 : Int) ≤ (k : Int) := by omega
          have hi2 : (k : Int) < (X.length : Int) := by omega
          have hwk : IntKind.i64.wrap ((k : Int) + 1) = (k : Int) + 1 := by rw [IntKind.wrap_i64]; omega
          obtain ⟨t, ht⟩ : ∃ t, t = 64 - s := ⟨_, rfl⟩
          have htb : t ≤ 64 := by omega
          have hw64 : IntKind.i64.wrap (64 - (s : Int)) = (t : Int) := by rw [IntKind.wrap_i64]; omega
          have hw66 : IntKind.i64.wrap (t : Int) = (t : Int) := by rw [IntKind.wrap_i64]; omega
          have hw65 : (64 - (s : Int)) = (t : Int) := by omega
          have HT := hide ht
          clear ht
          go_wp2
          go_region_held3 (fun w2 => w2.cell? ⟨b, off + q + k, none⟩ = some (.int .u64 x)) (go_keep) (first | (go_at_call 41; refine H42.mono ?_; rintro e w2 ⟨rfl, rfl⟩))
          go_wp2
          go_roundw
          case rel =>
            have e := HT.out
            subst e
            rw [walk_shr2 x y s hs z1]
            exact ⟨k + 1, out.set k (shr x y s), by omega, by go_num, by simp; omega, limbs_set hlo _ _ (shr_lt2 x y s hs z1), HB.out.set _ _, (HL.out.setCell (Nat.le_refl _) _).drew, by rw [HY.out]; exact HS.out⟩
          case measure => simp [intOf]; omega
        · have ek : k = X.length := by omega
          subst ek
          have HA := answer_blk _ w'.heap.size _ _ hblk hlo (Nat.le_refl _) (by omega)
          rw [right_end X out s hlen HV.out, HVX.out, hlen] at HA
          clear hblk hbl HV HB hlo hcx hlimx
          go_wp2_with fail
          refine HA.mono ?_
          rintro e w2 ⟨rfl, hres⟩
          unfold Res at hres
          obtain ⟨v, c, rs, rfl, hres⟩ := hres
          have HX := hide hres
          clear hres
          go_wp2
          go_ret2
          exact ⟨HL.out, v, c, rs, rfl, HX.out⟩

end Go.Proofs.Ythpihbofcgeljaa
