/- Of and Shr of the reference, once more: what they answer lies in new memory. -/
import Derived.Test.YtlengglmnbpkbaaDoorQG
namespace Go.Proofs.YtlengglmnbpkbaaDoor
open Go.RowKit
open Lm
attribute [local go_sem ↓] Go.wp_at_zero Go.wp_at_succ

set_option maxHeartbeats 800000 in
theorem of_new (v : Value) (zs : List Nat) (w : World) (h : Arg w v zs) (hf : zs.length ≤ 17592186044416) :
    Calls Tryd.prog 40 #[v] w fun e w' => (∃ v', e = .returned v' ∧ Num w' v' (val zs) ∧ New w.heap.size v') ∧ Below w.heap.size w w' := by
  obtain ⟨ao, cap, rfl, hcap, hmax, L1⟩ := h.form
  have M1 := h.limbs
  obtain ⟨i0, hi, hz0, hz1, hz2⟩ := info_parts Tryd.infoU
  clear h
  go_enter Tryd.func40, Tryd.ntmps40
  go_wp2_with (at_make; refine wpList_make_own _ rfl _ _ 42 rfl w.heap.size 65 i0 (.int .u64 0) 1 Tryd.underlying42 hi hz0 hz1 .i64 .i64 _ (2 * zs.length) rfl rfl (by omega) (by rw [hz2]; omega) (by unfold maxLen; omega) (Nat.le_refl _) ?_; intro w1 hown hgrow)
  have hbel : Below w.heap.size w w1 := (Below.refl _ _).grown hgrow (Nat.le_refl _) (fun k hk => by cases hk)
  have hsz : w.heap.size < w1.heap.size := by
    have := hown.lt w.heap.size rfl
    exact this.2
  clear hgrow hz0 hz2
  go_loopw [3, 12] (fun o i wr => ∃ k : Nat, k ≤ zs.length ∧ i = .int .i64 k ∧ o = .slice (some ⟨w.heap.size, 0, none⟩) (2 * k) (2 * zs.length) ∧ wr.ownsRow w.heap.size 65 1 (.slice (some ⟨w.heap.size, 0, none⟩) (2 * k) (2 * zs.length)) (2 * k) ((halves (zs.take k)).map lv) ∧ Below w.heap.size w wr) (fun _ i _ => zs.length - (intOf i).toNat)
  case atStart => exact ⟨0, Nat.zero_le _, rfl, rfl, hown, hbel⟩
  case round =>
    obtain ⟨k, hk, rfl, rfl, ho, hbl⟩ := hrel
    clear hown hbel
    by_cases hkl : k < zs.length
    · rcases L1.below hbl with h0 | ⟨b, off, rfl, hcell⟩
      · simp [h0] at hkl
      · have hck := hcell k hkl
        have z1 := limb_lt M1 k
        have HT := hide (halves_take zs k hkl)
        generalize zs.getD k 0 = z at *
        have e1 : (z : Int) % 4294967296 = ((z % 4294967296 : Nat) : Int) := by omega
        have e2 : (z : Int) / 4294967296 = ((z / 4294967296 : Nat) : Int) := by omega
        have b1 : z % 4294967296 < 4294967296 := by omega
        have b2 : z / 4294967296 < 4294967296 := by omega
        generalize z % 4294967296 = lo at *
        generalize z / 4294967296 = hh at *
        have HB := hide hbl
        clear hcell L1 M1 hbl
        go_wp2_with (at_builtin; refine wpList_append_fits _ rfl _ _ 42 rfl w.heap.size 65 i0 1 Tryd.underlying42 hi hz1 w.heap.size (2 * k) (2 * zs.length) _ rfl (ho.alloc _) ⟨wr.heap.size, 0, none⟩ 2 2 ([lo, hh].map lv) rfl rfl (news_cells [lo, hh]) (lv_oneCell _) (by omega) ?_; intro w2 hown2 hgrow2)
        have HO := hide hown2
        have HB2 := hide ((HB.out.alloc HB.out.size (.cells ([lo, hh].map lv).toArray 65)).grown hgrow2 (by have := HB.out.size; simp; omega) (fun k hk => by cases hk; exact Nat.le_refl _))
        clear hown2 hgrow2 ho hck
        go_wp2
        go_roundw
        case rel =>
          refine ⟨k + 1, by omega, by go_num, rfl, ?_, HB2.out⟩
          rw [HT.out, List.map_append]
          exact HO.out
        case measure => simp [intOf]; omega
    · have ek : k = zs.length := by omega
      subst ek
      rw [List.take_length] at ho
      have el := halves_length zs
      have hA : Ans wr w.heap.size (.slice (some ⟨w.heap.size, 0, none⟩) (2 * zs.length) (2 * zs.length)) (halves zs) := ⟨by rw [el]; exact ho, digs_limbs (halves_digs M1)⟩
      have H := norm_new w.heap.size _ _ _ (hA.arg (by omega)) (halves_digs M1) (by omega) (New.at _ _ _ _ _ (Nat.le_refl _))
      rw [halves_val] at H
      have HB := hide hbl
      clear ho hA hbl L1 M1
      go_wp2_with fail
      refine H.mono ?_
      rintro e w2 ⟨⟨v', rfl, hnum, hnew⟩, rfl⟩
      have HNW := hide hnew
      have HN := hide hnum
      clear hnum H hnew
      go_wp2
      go_ret
      exact ⟨⟨v', rfl, HN.out, HNW.out⟩, HB.out⟩

set_option maxRecDepth 20000 in
set_option maxHeartbeats 1000000 in
theorem rshr_new (v : Value) (x n : Nat) (w : World) (h : Num w v x) (hf : blen x ≤ 1125899906840000) (hn : n ≤ 4611686018427387904) :
    Calls Tryd.prog 42 #[v, .int .i64 n] w fun e w' => (∃ v', e = .returned v' ∧ Num w' v' (x / 2 ^ n) ∧ New w.heap.size v') ∧ Below w.heap.size w w' := by
  obtain ⟨X, A, hX, hXt, rfl, _⟩ := h
  have lX := num_len hX hXt 35184372088750 (by omega)
  clear hf
  obtain ⟨a1, c1, rfl, hc1, hm1, L1⟩ := A.form
  by_cases h0 : X.length ≤ n / 32
  · have hx := hide (rshr_none X n hX h0)
    obtain ⟨q, hq⟩ : ∃ q, q = n / 32 := ⟨_, rfl⟩
    have eq1 : (n : Int) / 32 = (q : Int) := by omega
    have h1 : (X.length : Int) ≤ (q : Int) := by omega
    clear A L1 hX hXt hq h0
    go_enter Tryd.func42, Tryd.ntmps42
    go_wp2
    go_ret
    refine ⟨⟨_, rfl, ?_, New.nil _ _ _⟩, Below.refl _ _⟩
    rw [hx.out]
    exact Num.nil w
  · obtain ⟨i0, hi, hz0, hz1, hz2⟩ := info_parts Tryd.infoU
    obtain ⟨q, s, hs, hnq⟩ : ∃ q s, s < 32 ∧ n = q * 32 + s := ⟨n / 32, n % 32, by omega, by omega⟩
    have hq : q < X.length := by omega
    have eq1 : (n : Int) / 32 = (q : Int) := by omega
    have eq2 : (n : Int) % 32 = (s : Int) := by omega
    have HN : Hid (n = q * 32 + s) := hnq
    have hd0 : decide ((X.length : Int) ≤ (q : Int)) = false := decide_eq_false (by omega)
    rcases L1 with h' | ⟨b, off, rfl, hcell⟩
    · rw [h'] at hq; simp at hq
    · have hbw : b < w.heap.size := Lies.block (zs := X) (.inr ⟨b, off, rfl, hcell⟩) (by omega)
      clear hnq h0
      have hlL : (shrL s (X.drop q)).length = X.length - q := by rw [shrL_length, List.length_drop]
      have eL : (X.length : Int) - (q : Int) = ((X.length - q : Nat) : Int) := by omega
      obtain ⟨M, hM⟩ : ∃ M, M = X.length - q := ⟨_, rfl⟩
      rw [← hM] at hlL eL
      have hM1 : M + q ≤ X.length := by omega
      have hM2 : X.length ≤ M + q := by omega
      clear hM
      go_enter Tryd.func42, Tryd.ntmps42
      go_wp2_with (at_make; refine wpList_make_full _ rfl _ _ 42 rfl w.heap.size 65 i0 (.int .u64 0) 1 Tryd.underlying42 hi hz0 hz1 .i64 .i64 _ _ M rfl rfl (by omega) (by omega) (by rw [hz2]; omega) (by unfold maxLen; omega) (Nat.le_refl _) ?_; intro w1 hown hgrow)
      have hb1 := Blk.made hown
      have hbel : Below w.heap.size w w1 := (Below.refl _ _).grown hgrow (Nat.le_refl _) (fun k hk => by cases hk)
      clear hown hgrow hi hz0 hz1 hz2
      rw [eq2]
      go_loopw [24] (fun i wr => ∃ (k : Nat) (out : List Nat), k ≤ M ∧ i = .int .i64 k ∧ out.length = M ∧ Digs 4294967296 out ∧ Blk wr w.heap.size out ∧ Below w.heap.size w wr ∧
          out.take k = (shrL s (X.drop q)).take k) (fun i _ => M - (intOf i).toNat)
      case atStart => exact ⟨0, _, Nat.zero_le _, rfl, by simp, digs_replicate (by omega) _, hb1, hbel, rfl⟩
      case round =>
        obtain ⟨k, out, hk, rfl, hlen, hdo, hblk, hbl, hval⟩ := hrel
        clear hb1 hbel
        have HB := hide hblk
        have HL := hide hbl
        by_cases hkl : k < M
        · have hj : k + q < X.length := by omega
          have ej : (k : Int) + (q : Int) = ((k + q : Nat) : Int) := by omega
          have wj : IntKind.i64.wrap ((k + q : Nat) : Int) = ((k + q : Nat) : Int) := by rw [IntKind.wrap_i64]; omega
          have wq : IntKind.i64.wrap (q : Int) = (q : Int) := by rw [IntKind.wrap_i64]; omega
          have wj1 : IntKind.i64.wrap (((k + q : Nat) : Int) + 1) = ((k + q : Nat) : Int) + 1 := by rw [IntKind.wrap_i64]; omega
          have hi1 : (0 : Int) ≤ ((k + q : Nat) : Int) := by omega
          have hi2 : ((k + q : Nat) : Int) < (X.length : Int) := by omega
          have hck : wr.cell? ⟨b, off + (k + q), none⟩ = some (.int .u64 ((X.getD (k + q) 0 : Nat) : Int)) := by rw [hbl.cell (p := ⟨b, off + (k + q), none⟩) hbw]; exact hcell (k + q) (by omega)
          have ec : ((k + q + 1 : Nat) : Int) = ((k + q : Nat) : Int) + 1 := by omega
          have H2 := at_any _ X (k + q + 1) wr.drew (A.below hbl.drew)
          rw [ec] at H2
          clear ec
          have hne1 : ¬ b = w.heap.size := by omega
          have hne2 : ¬ w.heap.size = b := by omega
          have hfr := hblk.free k
          have hco := hblk.cell k (by omega)
          generalize out.getD k 0 = o at *
          have z1 := dig_lt (by omega) hX (k + q)
          have z2 := dig_lt (by omega) hX (k + q + 1)
          have hg := shrL_getD s (X.drop q) k (by rw [List.length_drop]; omega)
          have eg : ∀ j, (X.drop q).getD j 0 = X.getD (j + q) 0 := fun j => by simp [List.getD, Nat.add_comm]
          rw [eg, eg, show k + 1 + q = k + q + 1 by omega] at hg
          have HV := hide (take_set_list out (shrL s (X.drop q)) k (by omega) (by omega) hval)
          rw [hg] at HV
          clear hg eg
          generalize X.getD (k + q) 0 = x at *
          generalize X.getD (k + q + 1) 0 = y at *
          have bm : (x + y * 4294967296) / 2 ^ s % 4294967296 < 4294967296 := Nat.mod_lt _ (by omega)
          have e0 : (y : Int) * 4294967296 = ((y * 4294967296 : Nat) : Int) := by omega
          have by1 : y * 4294967296 ≤ 18446744069414584320 := by omega
          generalize y * 4294967296 = Y at *
          have e1 : (x : Int) + (Y : Int) = ((x + Y : Nat) : Int) := by omega
          have by2 : x + Y < 18446744073709551616 := by omega
          generalize x + Y = T at *
          have e2 : (T : Int) / 2 ^ s = ((T / 2 ^ s : Nat) : Int) := by push_cast; rfl
          generalize T / 2 ^ s = D at *
          have e3 : (D : Int) % 4294967296 = ((D % 4294967296 : Nat) : Int) := by omega
          generalize D % 4294967296 = m at *
          have wY : IntKind.u64.wrap (Y : Int) = (Y : Int) := by rw [IntKind.wrap_u64]; omega
          have wT : IntKind.u64.wrap (T : Int) = (T : Int) := by rw [IntKind.wrap_u64]; omega
          generalize k + q = j at *
          clear hval hblk hbl hcell A hX
          go_wp2
          go_region_held3 (fun w' => w'.cell? ⟨b, off + j, none⟩ = some (.int .u64 x)) (go_keep) (first | (go_at_call 67; refine H2.mono ?_; rintro e w2 ⟨rfl, rfl⟩))
          go_wp2
          go_roundw
          case rel => exact ⟨k + 1, out.set k m, by omega, by go_num, by simp; omega, digs_set hdo _ _ bm, HB.out.set k m, (HL.out.setCell (Nat.le_refl _) _).drew, HV.out⟩
          case measure => simp [intOf]; omega
        · have ek : k = M := by omega
          subst ek
          have hve : vb 4294967296 out = vb 4294967296 X / 2 ^ n := by
            rw [List.take_of_length_le (by omega), List.take_of_length_le (by omega)] at hval
            rw [hval, rshr_val X q s hX (by omega) hs, ← HN.out]
          have hA := Ans.of_blk (base := w.heap.size) (zs := out) (Nat.le_refl _) hblk List.take_length.symm (Nat.le_refl _) (by omega) (digs_limbs hdo)
          have H := norm_new w.heap.size _ _ _ (hA.arg (by omega)) hdo (by omega) (New.at _ _ _ _ _ (Nat.le_refl _))
          rw [hlen, hve] at H
          clear hval hblk hbl hX hA hve HB hcell A
          go_wp2_with fail
          refine H.mono ?_
          rintro e w2 ⟨⟨v', rfl, hnum, hnew⟩, rfl⟩
          have HNW := hide hnew
          have HN := hide hnum
          clear hnum H hnew
          go_wp2
          go_ret
          exact ⟨⟨v', rfl, HN.out, HNW.out⟩, HL.out⟩

end Go.Proofs.YtlengglmnbpkbaaDoor
