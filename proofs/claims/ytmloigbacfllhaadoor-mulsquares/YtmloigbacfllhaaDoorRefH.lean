/- The reference's numbers: Zero, Shl. -/
import Derived.Test.YtmloigbacfllhaaDoorRefG
import Derived.Test.YtmloigbacfllhaaDoorP34
namespace Go.Proofs.YtmloigbacfllhaaDoor
open Go.RowKit
open Lm
attribute [local go_sem ↓] Go.wp_at_zero Go.wp_at_succ

theorem Num.zero_iff {w : World} {v : Value} {x : Nat} (h : Num w v x) : ∃ ao n cap, v = .slice ao n cap ∧ ((n : Int) == 0) = (x == 0) := by
  obtain ⟨ds, A, hd, ht, rfl, _⟩ := h
  obtain ⟨ao, cap, hv, _⟩ := A.form
  refine ⟨ao, ds.length, cap, hv, ?_⟩
  by_cases h0 : ds = []
  · subst h0; rfl
  · have h1 : 0 < ds.length := List.length_pos_iff.2 h0
    have h2 : vb 4294967296 ds ≠ 0 := fun e => h0 (vb_tail_zero (by omega) ht e)
    have e1 : ((ds.length : Int) == 0) = false := by rw [beq_eq_false_iff_ne]; omega
    have e2 : (vb 4294967296 ds == 0) = false := by rw [beq_eq_false_iff_ne]; exact h2
    rw [e1, e2]

theorem zero_any (v : Value) (x : Nat) (w : World) (h : Num w v x) : Calls Tryd.prog 51 #[v] w fun e w' => e = .returned (.bool (x == 0)) ∧ w' = w := by
  obtain ⟨ao, n, cap, rfl, he⟩ := h.zero_iff
  clear h
  go_enter Tryd.func51, Tryd.ntmps51
  go_wp2
  go_ret
  exact ⟨rfl, rfl⟩

theorem getD_zeros (n k : Nat) : (List.replicate n 0).getD k 0 = 0 := by
  by_cases h : k < n
  · simp [List.getD, h]
  · simp [List.getD, h]

theorem vb_zeros (B n : Nat) : vb B (List.replicate n 0) = 0 := by
  induction n with
  | zero => rfl
  | succ n ih => rw [List.replicate_succ, vb, ih]; simp

theorem set2_getD (out : List Nat) (k d t : Nat) (h : k + 1 < out.length) : ((out.set k t).set (k + 1) d).getD (k + 1) 0 = d := by
  simp [List.getD, h]

theorem wrap_shl32 (x s : Nat) (h : x * 2 ^ s < 18446744073709551616) : IntKind.u64.wrap ((x : Int) * 2 ^ s) = ((x * 2 ^ s : Nat) : Int) := by
  rw [IntKind.wrap_u64]
  have e : (x : Int) * 2 ^ s = ((x * 2 ^ s : Nat) : Int) := by push_cast; rfl
  rw [e]; omega

theorem wrap64_id (n : Int) (h1 : -9223372036854775808 ≤ n) (h2 : n ≤ 9223372036854775807) : wrap64 n = n := by unfold wrap64; omega

theorem set2_length (out : List Nat) (i j a b : Nat) : ((out.set i a).set j b).length = out.length := by simp

set_option maxRecDepth 20000 in
set_option maxHeartbeats 1000000 in
theorem rshl_any (v : Value) (x n : Nat) (w : World) (h : Num w v x) (hf : blen x + n ≤ 1125899906809856) :
    Calls Tryd.prog 74 #[v, .int .i64 n] w fun e w' => (∃ v', e = .returned v' ∧ Num w' v' (x * 2 ^ n)) ∧ Below w.heap.size w w' := by
  obtain ⟨X, A, hX, hXt, rfl, _⟩ := h
  obtain ⟨a1, c1, rfl, hc1, hm1, L1⟩ := A.form
  by_cases h0 : X.length = 0
  · have hx : X = [] := List.length_eq_zero_iff.1 h0
    subst hx
    clear A L1 hX hXt hf
    go_enter Tryd.func74, Tryd.ntmps74
    go_wp2
    go_ret
    refine ⟨⟨_, rfl, ?_⟩, Below.refl _ _⟩
    rw [vb, Nat.zero_mul]
    exact Num.nil w
  · obtain ⟨i0, hi, hz0, hz1, hz2⟩ := info_parts Tryd.infoU
    obtain ⟨q, s, hs, hnq⟩ : ∃ q s, s < 32 ∧ n = q * 32 + s := ⟨n / 32, n % 32, by omega, by omega⟩
    have lX : X.length + q ≤ 35184372087810 := by
      obtain ⟨m, hm⟩ : ∃ m, X.length = m + 1 := ⟨X.length - 1, by omega⟩
      have h1 := blen_vb hX hXt m hm
      omega
    have eq1 : (n : Int) / 32 = (q : Int) := by omega
    have eq2 : (n : Int) % 32 = (s : Int) := by omega
    have HN : Hid (n = q * 32 + s) := hnq
    rcases L1 with h' | ⟨b, off, rfl, hcell⟩
    · exact absurd (by rw [h']; rfl) h0
    · have hbw : b < w.heap.size := Lies.block (zs := X) (.inr ⟨b, off, rfl, hcell⟩) (by omega)
      have hln : ((X.length : Int) == 0) = false := by rw [beq_eq_false_iff_ne]; omega
      clear hnq hf A
      go_enter Tryd.func74, Tryd.ntmps74
      go_wp2_with (at_make; refine wpList_make_full _ rfl _ _ 26 rfl w.heap.size 38 i0 (.int .u64 0) 1 Tryd.underlying26 hi hz0 hz1 .i64 .i64 _ _ (X.length + q + 1) rfl rfl (by omega) (by omega) (by rw [hz2]; omega) (by unfold maxLen; omega) (Nat.le_refl _) ?_; intro w1 hown hgrow)
      have hb1 := Blk.made hown
      have hbel : Below w.heap.size w w1 := (Below.refl _ _).grown hgrow (Nat.le_refl _) (fun k hk => by cases hk)
      clear hown hgrow hi hz0 hz1 hz2
      go_loopw [23] (fun i wr => ∃ (k : Nat) (out : List Nat), k ≤ X.length ∧ i = .int .i64 k ∧ out.length = X.length + q + 1 ∧ Digs 4294967296 out ∧ out.getD (q + k) 0 < 2 ^ s ∧ Blk wr w.heap.size out ∧ Below w.heap.size w wr ∧
          vb 4294967296 (out.take (q + k + 1)) = vb 4294967296 (X.take k) * 2 ^ n) (fun i _ => X.length - (intOf i).toNat)
      case atStart => exact ⟨0, _, Nat.zero_le _, rfl, by simp, digs_replicate (by omega) _, by rw [getD_zeros]; exact Nat.two_pow_pos _, hb1, hbel, by rw [List.take_replicate, vb_zeros]; simp [vb]⟩
      case round =>
        obtain ⟨k, out, hk, rfl, hlen, hdo, hlow, hblk, hbl, hval⟩ := hrel
        clear hb1 hbel
        have HB := hide hblk
        have HL := hide hbl
        by_cases hkl : k < X.length
        · have hck : wr.cell? ⟨b, off + k, none⟩ = some (.int .u64 ((X.getD k 0 : Nat) : Int)) := by rw [hbl.cell (p := ⟨b, off + k, none⟩) hbw]; exact hcell k hkl
          have hne1 : ¬ b = w.heap.size := by omega
          have hne2 : ¬ w.heap.size = b := by omega
          have hfr := hblk.free (k + q)
          have hco := hblk.cell (k + q) (by omega)
          have hfr1 := hblk.free (k + q + 1)
          have hco1 := hblk.cell (k + q + 1) (by omega)
          have HV := hide (rshl_step X out q s k n HN.out (by omega) hval)
          have z1 := dig_lt (by omega) hX k
          have b1 := shl32_mod (X.getD k 0) s (out.getD (q + k) 0) (by omega) hlow
          have b2 := shl32_div (X.getD k 0) s z1
          have b3 := shl32_fit (X.getD k 0) s z1 hs
          have hdd := hide (digs_set (digs_set hdo (q + k) _ b1) (q + k + 1) (X.getD k 0 * 2 ^ s / 4294967296) (by omega))
          have hge := hide (show ((out.set (q + k) (out.getD (q + k) 0 + X.getD k 0 * 2 ^ s % 4294967296)).set (q + k + 1) (X.getD k 0 * 2 ^ s / 4294967296)).getD (q + (k + 1)) 0 < 2 ^ s by rw [show q + (k + 1) = q + k + 1 by omega, set2_getD _ _ _ _ (by omega)]; exact b2)
          generalize X.getD k 0 = x at *
          rw [Nat.add_comm q k] at *
          generalize out.getD (k + q) 0 = o at *
          generalize out.getD (k + q + 1) 0 = o1 at *
          have w0 : IntKind.u64.wrap ((x : Int) * 2 ^ s) = ((x * 2 ^ s : Nat) : Int) := wrap_shl32 x s b3
          generalize x * 2 ^ s = T at *
          have e1 : (T : Int) % 4294967296 = ((T % 4294967296 : Nat) : Int) := by omega
          have e2 : (T : Int) / 4294967296 = ((T / 4294967296 : Nat) : Int) := by omega
          have b4 : T / 4294967296 < 4294967296 := by omega
          generalize T % 4294967296 = m at *
          generalize T / 4294967296 = d at *
          have e3 : (o : Int) + (m : Int) = ((o + m : Nat) : Int) := by omega
          generalize o + m = t at *
          have e4 : IntKind.u64.wrap (t : Int) = (t : Int) := by rw [IntKind.wrap_u64]; omega
          clear hval hblk hbl hcell
          go_wp2
          go_region
          go_wp2
          go_roundw
          case rel => exact ⟨k + 1, (out.set (k + q) t).set (k + q + 1) d, by omega, by go_num, by rw [set2_length]; exact hlen, hdd.out, hge.out, (HB.out.set (k + q) t).set (k + q + 1) d, ((HL.out.setCell (Nat.le_refl _) _).setCell (Nat.le_refl _) _).drew, by rw [show q + (k + 1) + 1 = k + q + 1 + 1 by omega]; exact HV.out⟩
          case measure => simp [intOf]; omega
        · have ek : k = X.length := by omega
          subst ek
          have hve : vb 4294967296 out = vb 4294967296 X * 2 ^ n := by
            rw [List.take_of_length_le (by omega), List.take_length] at hval; exact hval
          have hA := Ans.of_blk (base := w.heap.size) (zs := out) (Nat.le_refl _) hblk List.take_length.symm (Nat.le_refl _) (by omega) (digs_limbs hdo)
          have H := norm_any _ _ _ (hA.arg (by omega)) hdo (by omega)
          rw [hlen, hve] at H
          clear hval hblk hbl hX hA hve HB hcell
          go_wp2_with fail
          refine H.mono ?_
          rintro e w2 ⟨⟨v', rfl, hnum⟩, rfl⟩
          have HN := hide hnum
          clear hnum H
          go_wp2
          go_ret
          exact ⟨⟨v', rfl, HN.out⟩, HL.out⟩

set_option maxRecDepth 20000 in
set_option maxHeartbeats 1000000 in
theorem rshr_any (v : Value) (x n : Nat) (w : World) (h : Num w v x) (hf : blen x ≤ 1125899906809856) (hn : n ≤ 4611686018427387904) :
    Calls Tryd.prog 69 #[v, .int .i64 n] w fun e w' => (∃ v', e = .returned v' ∧ Num w' v' (x / 2 ^ n)) ∧ Below w.heap.size w w' := by
  obtain ⟨X, A, hX, hXt, rfl, _⟩ := h
  have lX := num_len hX hXt 35184372087808 (by omega)
  clear hf
  obtain ⟨a1, c1, rfl, hc1, hm1, L1⟩ := A.form
  by_cases h0 : X.length ≤ n / 32
  · have hx := hide (rshr_none X n hX h0)
    obtain ⟨q, hq⟩ : ∃ q, q = n / 32 := ⟨_, rfl⟩
    have eq1 : (n : Int) / 32 = (q : Int) := by omega
    have h1 : (X.length : Int) ≤ (q : Int) := by omega
    clear A L1 hX hXt hq h0
    go_enter Tryd.func69, Tryd.ntmps69
    go_wp2
    go_ret
    refine ⟨⟨_, rfl, ?_⟩, Below.refl _ _⟩
    rw [hx.out]
    exact Num.nil w
  · obtain ⟨i0, hi, hz0, hz1, hz2⟩ := info_parts Tryd.infoU
    obtain ⟨q, s, hs, hnq⟩ : ∃ q s, s < 32 ∧ n = q * 32 + s := ⟨n / 32, n % 32, by omega, by omega⟩
    have hq : q < X.length := by omega
    have eq1 : (n : Int) / 32 = (q : Int) := by omega
    have eq2 : (n : Int) % 32 = (s : Int) := by omega
    have HN : Hid (n = q * 32 + s) := hnq
    have hd0 : decide ((X.length : Int) ≤ (q : Int)) = false := decide_eq_false (by omega)
    rcases L1 with h' | ⟨b, off, rfl, hcell⟩
    · rw [h'] at hq; simp at hq
    · have hbw : b < w.heap.size := Lies.block (zs := X) (.inr ⟨b, off, rfl, hcell⟩) (by omega)
      clear hnq h0
      have hlL : (shrL s (X.drop q)).length = X.length - q := by rw [shrL_length, List.length_drop]
      have eL : (X.length : Int) - (q : Int) = ((X.length - q : Nat) : Int) := by omega
      obtain ⟨M, hM⟩ : ∃ M, M = X.length - q := ⟨_, rfl⟩
      rw [← hM] at hlL eL
      have hM1 : M + q ≤ X.length := by omega
      have hM2 : X.length ≤ M + q := by omega
      clear hM
      go_enter Tryd.func69, Tryd.ntmps69
      go_wp2_with (at_make; refine wpList_make_full _ rfl _ _ 26 rfl w.heap.size 38 i0 (.int .u64 0) 1 Tryd.underlying26 hi hz0 hz1 .i64 .i64 _ _ M rfl rfl (by omega) (by omega) (by rw [hz2]; omega) (by unfold maxLen; omega) (Nat.le_refl _) ?_; intro w1 hown hgrow)
      have hb1 := Blk.made hown
      have hbel : Below w.heap.size w w1 := (Below.refl _ _).grown hgrow (Nat.le_refl _) (fun k hk => by cases hk)
      clear hown hgrow hi hz0 hz1 hz2
      rw [eq2]
      go_loopw [24] (fun i wr => ∃ (k : Nat) (out : List Nat), k ≤ M ∧ i = .int .i64 k ∧ out.length = M ∧ Digs 4294967296 out ∧ Blk wr w.heap.size out ∧ Below w.heap.size w wr ∧
          out.take k = (shrL s (X.drop q)).take k) (fun i _ => M - (intOf i).toNat)
      case atStart => exact ⟨0, _, Nat.zero_le _, rfl, by simp, digs_replicate (by omega) _, hb1, hbel, rfl⟩
      case round =>
        obtain ⟨k, out, hk, rfl, hlen, hdo, hblk, hbl, hval⟩ := hrel
        clear hb1 hbel
        have HB := hide hblk
        have HL := hide hbl
        by_cases hkl : k < M
        · have hj : k + q < X.length := by omega
          have ej : (k : Int) + (q : Int) = ((k + q : Nat) : Int) := by omega
          have wj : IntKind.i64.wrap ((k + q : Nat) : Int) = ((k + q : Nat) : Int) := by rw [IntKind.wrap_i64]; omega
          have wq : IntKind.i64.wrap (q : Int) = (q : Int) := by rw [IntKind.wrap_i64]; omega
          have wj1 : IntKind.i64.wrap (((k + q : Nat) : Int) + 1) = ((k + q : Nat) : Int) + 1 := by rw [IntKind.wrap_i64]; omega
          have hi1 : (0 : Int) ≤ ((k + q : Nat) : Int) := by omega
          have hi2 : ((k + q : Nat) : Int) < (X.length : Int) := by omega
          have hck : wr.cell? ⟨b, off + (k + q), none⟩ = some (.int .u64 ((X.getD (k + q) 0 : Nat) : Int)) := by rw [hbl.cell (p := ⟨b, off + (k + q), none⟩) hbw]; exact hcell (k + q) (by omega)
          have ec : ((k + q + 1 : Nat) : Int) = ((k + q : Nat) : Int) + 1 := by omega
          have H2 := at_any _ X (k + q + 1) wr.drew (A.below hbl.drew)
          rw [ec] at H2
          clear ec
          have hne1 : ¬ b = w.heap.size := by omega
          have hne2 : ¬ w.heap.size = b := by omega
          have hfr := hblk.free k
          have hco := hblk.cell k (by omega)
          generalize out.getD k 0 = o at *
          have z1 := dig_lt (by omega) hX (k + q)
          have z2 := dig_lt (by omega) hX (k + q + 1)
          have hg := shrL_getD s (X.drop q) k (by rw [List.length_drop]; omega)
          have eg : ∀ j, (X.drop q).getD j 0 = X.getD (j + q) 0 := fun j => by simp [List.getD, Nat.add_comm]
          rw [eg, eg, show k + 1 + q = k + q + 1 by omega] at hg
          have HV := hide (take_set_list out (shrL s (X.drop q)) k (by omega) (by omega) hval)
          rw [hg] at HV
          clear hg eg
          generalize X.getD (k + q) 0 = x at *
          generalize X.getD (k + q + 1) 0 = y at *
          have bm : (x + y * 4294967296) / 2 ^ s % 4294967296 < 4294967296 := Nat.mod_lt _ (by omega)
          have e0 : (y : Int) * 4294967296 = ((y * 4294967296 : Nat) : Int) := by omega
          have by1 : y * 4294967296 ≤ 18446744069414584320 := by omega
          generalize y * 4294967296 = Y at *
          have e1 : (x : Int) + (Y : Int) = ((x + Y : Nat) : Int) := by omega
          have by2 : x + Y < 18446744073709551616 := by omega
          generalize x + Y = T at *
          have e2 : (T : Int) / 2 ^ s = ((T / 2 ^ s : Nat) : Int) := by push_cast; rfl
          generalize T / 2 ^ s = D at *
          have e3 : (D : Int) % 4294967296 = ((D % 4294967296 : Nat) : Int) := by omega
          generalize D % 4294967296 = m at *
          have wY : IntKind.u64.wrap (Y : Int) = (Y : Int) := by rw [IntKind.wrap_u64]; omega
          have wT : IntKind.u64.wrap (T : Int) = (T : Int) := by rw [IntKind.wrap_u64]; omega
          generalize k + q = j at *
          clear hval hblk hbl hcell A hX
          go_wp2
          go_region_held3 (fun w' => w'.cell? ⟨b, off + j, none⟩ = some (.int .u64 x)) (go_keep) (first | (go_at_call 71; refine H2.mono ?_; rintro e w2 ⟨rfl, rfl⟩))
          go_wp2
          go_roundw
          case rel => exact ⟨k + 1, out.set k m, by omega, by go_num, by simp; omega, digs_set hdo _ _ bm, HB.out.set k m, (HL.out.setCell (Nat.le_refl _) _).drew, HV.out⟩
          case measure => simp [intOf]; omega
        · have ek : k = M := by omega
          subst ek
          have hve : vb 4294967296 out = vb 4294967296 X / 2 ^ n := by
            rw [List.take_of_length_le (by omega), List.take_of_length_le (by omega)] at hval
            rw [hval, rshr_val X q s hX (by omega) hs, ← HN.out]
          have hA := Ans.of_blk (base := w.heap.size) (zs := out) (Nat.le_refl _) hblk List.take_length.symm (Nat.le_refl _) (by omega) (digs_limbs hdo)
          have H := norm_any _ _ _ (hA.arg (by omega)) hdo (by omega)
          rw [hlen, hve] at H
          clear hval hblk hbl hX hA hve HB hcell A
          go_wp2_with fail
          refine H.mono ?_
          rintro e w2 ⟨⟨v', rfl, hnum⟩, rfl⟩
          have HN := hide hnum
          clear hnum H
          go_wp2
          go_ret
          exact ⟨⟨v', rfl, HN.out⟩, HL.out⟩

theorem rlow_any (v : Value) (x n : Nat) (w : World) (h : Num w v x) (hf : blen x ≤ 1125899906809856) (hn : n ≤ 4611686018427387904) :
    Calls Tryd.prog 68 #[v, .int .i64 n] w fun e w' => (∃ v', e = .returned v' ∧ Num w' v' (x % 2 ^ n)) ∧ Below w.heap.size w w' := by
  have HL := len_any v x w h
  by_cases hl : blen x ≤ n
  · have hx : x % 2 ^ n = x := Nat.mod_eq_of_lt ((blen_le_iff _ _).1 hl)
    have hnum : Hid (Num w v (x % 2 ^ n)) := by rw [hx]; exact hide h
    clear h hx
    generalize blen x = l at *
    go_enter Tryd.func68, Tryd.ntmps68
    go_wp2_with fail
    refine HL.mono ?_
    rintro e w2 ⟨rfl, rfl⟩
    clear HL
    go_wp2
    go_ret
    exact ⟨⟨_, rfl, hnum.out⟩, Below.refl _ _⟩
  · have hb1 : blen (x / 2 ^ n) + n ≤ 1125899906809856 := by
      have h1 : blen (x / 2 ^ n * 2 ^ n) ≤ blen x := blen_mono (Nat.div_mul_le_self _ _)
      have h0 : x / 2 ^ n ≠ 0 := by
        intro e
        have := (Nat.div_eq_zero_iff.1 e).resolve_left (by have := Nat.two_pow_pos n; omega)
        exact hl ((blen_le_iff _ _).2 this)
      rw [blen_shl _ _ h0] at h1
      omega
    have hle : x / 2 ^ n * 2 ^ n ≤ x := Nat.div_mul_le_self _ _
    have hve : Hid (x - x / 2 ^ n * 2 ^ n = x % 2 ^ n) := hide (by have := Nat.div_add_mod' x (2 ^ n); omega)
    have H1 := rshr_any v x n w h hf hn
    have HS : ∀ (w3 : World) (v2 : Value), Num w3 v x → Num w3 v2 (x / 2 ^ n * 2 ^ n) → Calls Tryd.prog 73 #[v, v2] w3 fun e w' => (∃ v', e = .returned v' ∧ Num w' v' (x - x / 2 ^ n * 2 ^ n)) ∧ Below w3.heap.size w3 w' := fun w3 v2 a b => rsub_any v v2 _ _ w3 a b hle hf
    have hd : decide ((blen x : Int) ≤ (n : Int)) = false := decide_eq_false (by omega)
    generalize blen x = l at *
    go_enter Tryd.func68, Tryd.ntmps68
    go_wp2_with fail
    refine HL.mono ?_
    rintro e w2 ⟨rfl, rfl⟩
    clear HL
    go_wp2_with fail
    refine H1.mono ?_
    rintro e w3 ⟨⟨v1, rfl, N1⟩, hb⟩
    have HB := hide hb
    clear hb H1
    go_wp2_with fail
    refine (rshl_any _ _ n _ N1 hb1).mono ?_
    rintro e w4 ⟨⟨v2, rfl, N2⟩, hb⟩
    replace HB : Hid (Below w2.heap.size w2 w4) := HB.out.trans (hb.mono HB.out.size)
    clear hb N1
    go_wp2_with fail
    refine (HS _ _ (h.below HB.out) N2).mono ?_
    rintro e w5 ⟨⟨v3, rfl, N3⟩, hb⟩
    replace HB : Hid (Below w2.heap.size w2 w5) := HB.out.trans (hb.mono HB.out.size)
    rw [hve.out] at N3
    have HN3 := hide N3
    clear hb N2 N3
    go_wp2
    go_ret
    exact ⟨⟨_, rfl, HN3.out⟩, HB.out⟩

end Go.Proofs.YtmloigbacfllhaaDoor
