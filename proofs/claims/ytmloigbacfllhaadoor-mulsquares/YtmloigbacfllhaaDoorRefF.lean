/- The reference's numbers: Add, Sub; the law's own 'same'. -/
import Derived.Test.YtmloigbacfllhaaDoorRefE
namespace Go.Proofs.YtmloigbacfllhaaDoor
open Go.RowKit
open Lm
attribute [local go_sem ↓] Go.wp_at_zero Go.wp_at_succ

theorem num_len {ds : List Nat} (hd : Digs 4294967296 ds) (ht : tr ds = ds) (L : Nat) (hb : blen (vb 4294967296 ds) ≤ 32 * L) : ds.length ≤ L := by
  refine Nat.le_of_not_lt fun hlt => ?_
  obtain ⟨n, hn⟩ : ∃ n, ds.length = n + 1 := ⟨ds.length - 1, by omega⟩
  have h1 := blen_vb hd ht n hn
  have h2 := blen_half _ (tr_last' ds n ht hn)
  omega

theorem vb_full {ds : List Nat} (n : Nat) (h : ds.length ≤ n) : vb 4294967296 (ds.take n) = vb 4294967296 ds := by rw [List.take_of_length_le h]

theorem radd_end {X Y out : List Nat} (hX : Digs 4294967296 X) (hY : Digs 4294967296 Y) (n cy : Nat) (h1 : X.length ≤ n) (h2 : Y.length ≤ n) (ho : out.length = n + 1)
    (h : vb 4294967296 (out.take (n + 1)) + cy * 4294967296 ^ (n + 1) = vb 4294967296 (X.take (n + 1)) + vb 4294967296 (Y.take (n + 1))) : vb 4294967296 out = vb 4294967296 X + vb 4294967296 Y := by
  rw [vb_full _ (by omega), vb_full _ (by omega), vb_full _ (by omega)] at h
  have a := vb_take_lt hX n
  have b := vb_take_lt hY n
  rw [vb_full _ h1] at a
  rw [vb_full _ h2] at b
  rcases Nat.eq_zero_or_pos cy with h0 | h0
  · subst h0; omega
  · exfalso
    have := Nat.mul_le_mul_right (4294967296 ^ (n + 1)) h0
    rw [Nat.pow_succ, B_pow] at this h
    omega

set_option maxHeartbeats 1000000 in
theorem radd_new (v1 v2 : Value) (x y : Nat) (w : World) (h1 : Num w v1 x) (h2 : Num w v2 y) (f1 : blen x ≤ 1125899906809856) (f2 : blen y ≤ 1125899906809856) :
    Calls Tryd.prog 59 #[v1, v2] w fun e w' => (∃ v', e = .returned v' ∧ Num w' v' (x + y) ∧ New w.heap.size v') ∧ Below w.heap.size w w' := by
  obtain ⟨X, A1, hX, hXt, rfl, _⟩ := h1
  obtain ⟨Y, A2, hY, hYt, rfl, _⟩ := h2
  have lX := num_len hX hXt 35184372087808 (by omega)
  have lY := num_len hY hYt 35184372087808 (by omega)
  obtain ⟨a1, c1, rfl, hc1, hm1, _⟩ := A1.form
  obtain ⟨a2, c2, rfl, hc2, hm2, _⟩ := A2.form
  obtain ⟨i0, hi, hz0, hz1, hz2⟩ := info_parts Tryd.infoU
  clear f1 f2 hXt hYt
  by_cases hl : X.length < Y.length
  · have i1 : (X.length : Int) < (Y.length : Int) := by omega
    go_enter Tryd.func59, Tryd.ntmps59
    go_wp2_with (at_make; refine wpList_make_full _ rfl _ _ 26 rfl w.heap.size 38 i0 (.int .u64 0) 1 Tryd.underlying26 hi hz0 hz1 .i64 .i64 _ _ (Y.length + 1) rfl rfl (by omega) (by omega) (by rw [hz2]; omega) (by unfold maxLen; omega) (Nat.le_refl _) ?_; intro w1 hown hgrow)
    have hb1 := Blk.made hown
    have hbel : Below w.heap.size w w1 := (Below.refl _ _).grown hgrow (Nat.le_refl _) (fun k hk => by cases hk)
    clear hown hgrow hi hz0 hz1 hz2
    go_loopw [7, 8] (fun c i wr => ∃ (k cy : Nat) (out : List Nat), k ≤ Y.length + 1 ∧ i = .int .i64 k ∧ c = .int .u64 cy ∧ cy ≤ 1 ∧ out.length = Y.length + 1 ∧ Digs 4294967296 out ∧ Blk wr w.heap.size out ∧ Below w.heap.size w wr ∧
        vb 4294967296 (out.take k) + cy * 4294967296 ^ k = vb 4294967296 (X.take k) + vb 4294967296 (Y.take k)) (fun _ i _ => Y.length + 1 - (intOf i).toNat)
    case atStart => exact ⟨0, 0, _, Nat.zero_le _, rfl, rfl, by omega, by simp, digs_replicate (by omega) _, hb1, hbel, by simp [vb]⟩
    case round =>
      obtain ⟨k, cy, out, hk, rfl, rfl, hcy, hlen, hdo, hblk, hbl, hval⟩ := hrel
      clear hb1 hbel
      have HB := hide hblk
      have HL := hide hbl
      by_cases hkl : k ≤ Y.length
      · have H1 := at_any _ X k wr (A1.below hbl)
        have H2 := at_any _ Y k wr (A2.below hbl)
        have hfr := hblk.free k
        have hco := hblk.cell k (by omega)
        generalize out.getD k 0 = o at *
        have z1 := dig_lt (by omega) hX k
        have z2 := dig_lt (by omega) hY k
        have HV := hide (vb_add_step X Y out k cy (by omega) hval)
        generalize X.getD k 0 = x at *
        generalize Y.getD k 0 = y at *
        have e0 : (x : Int) + (y : Int) + (cy : Int) = ((x + y + cy : Nat) : Int) := by omega
        have b0 : x + y + cy < 18446744073709551616 := by omega
        have e1 : ((x + y + cy : Nat) : Int) % 4294967296 = (((x + y + cy) % 4294967296 : Nat) : Int) := by omega
        have e2 : ((x + y + cy : Nat) : Int) / 4294967296 = (((x + y + cy) / 4294967296 : Nat) : Int) := by omega
        have b1 : (x + y + cy) % 4294967296 < 4294967296 := by omega
        have b2 : (x + y + cy) / 4294967296 ≤ 1 := by omega
        generalize (x + y + cy) % 4294967296 = m at *
        generalize (x + y + cy) / 4294967296 = d at *
        generalize x + y + cy = s at *
        clear hval hblk hbl A1 A2 hX hY
        go_wp2_with fail
        refine H1.mono ?_
        rintro e w2 ⟨rfl, rfl⟩
        go_wp2_with fail
        refine H2.mono ?_
        rintro e w2 ⟨rfl, rfl⟩
        clear H1 H2
        go_wp2
        go_roundw
        case rel => exact ⟨k + 1, d, out.set k m, by omega, by go_num, rfl, b2, by simp; omega, digs_set hdo _ _ b1, HB.out.set k m, HL.out.setCell (Nat.le_refl _) _, HV.out⟩
        case measure => simp [intOf]; omega
      · have ek : k = Y.length + 1 := by omega
        subst ek
        have hve := radd_end hX hY Y.length cy (by omega) (by omega) hlen hval
        have hA := Ans.of_blk (base := w.heap.size) (zs := out) (Nat.le_refl _) hblk List.take_length.symm (Nat.le_refl _) (by omega) (digs_limbs hdo)
        have H := norm_new w.heap.size _ _ _ (hA.arg (by omega)) hdo (by omega) (New.at _ _ _ _ _ (Nat.le_refl _))
        rw [hlen, hve] at H
        clear hval hblk hbl A1 A2 hX hY hA hve HB
        have hd1 : decide ((Y.length : Int) + 1 ≤ (Y.length : Int)) = false := decide_eq_false (by omega)
        go_wp2_with fail
        refine H.mono ?_
        rintro e w2 ⟨⟨v', rfl, hnum, hnw⟩, rfl⟩
        have HN := hide (And.intro hnum hnw)
        clear hnum hnw H
        go_wp2
        go_ret
        exact ⟨⟨v', rfl, HN.out.1, HN.out.2⟩, HL.out⟩
  · have hd0 : decide ((X.length : Int) < (Y.length : Int)) = false := decide_eq_false (by omega)
    go_enter Tryd.func59, Tryd.ntmps59
    go_wp2_with (at_make; refine wpList_make_full _ rfl _ _ 26 rfl w.heap.size 38 i0 (.int .u64 0) 1 Tryd.underlying26 hi hz0 hz1 .i64 .i64 _ _ (X.length + 1) rfl rfl (by omega) (by omega) (by rw [hz2]; omega) (by unfold maxLen; omega) (Nat.le_refl _) ?_; intro w1 hown hgrow)
    have hb1 := Blk.made hown
    have hbel : Below w.heap.size w w1 := (Below.refl _ _).grown hgrow (Nat.le_refl _) (fun k hk => by cases hk)
    clear hown hgrow hi hz0 hz1 hz2
    go_loopw [7, 8] (fun c i wr => ∃ (k cy : Nat) (out : List Nat), k ≤ X.length + 1 ∧ i = .int .i64 k ∧ c = .int .u64 cy ∧ cy ≤ 1 ∧ out.length = X.length + 1 ∧ Digs 4294967296 out ∧ Blk wr w.heap.size out ∧ Below w.heap.size w wr ∧
        vb 4294967296 (out.take k) + cy * 4294967296 ^ k = vb 4294967296 (X.take k) + vb 4294967296 (Y.take k)) (fun _ i _ => X.length + 1 - (intOf i).toNat)
    case atStart => exact ⟨0, 0, _, Nat.zero_le _, rfl, rfl, by omega, by simp, digs_replicate (by omega) _, hb1, hbel, by simp [vb]⟩
    case round =>
      obtain ⟨k, cy, out, hk, rfl, rfl, hcy, hlen, hdo, hblk, hbl, hval⟩ := hrel
      clear hb1 hbel
      have HB := hide hblk
      have HL := hide hbl
      by_cases hkl : k ≤ X.length
      · have H1 := at_any _ X k wr (A1.below hbl)
        have H2 := at_any _ Y k wr (A2.below hbl)
        have hfr := hblk.free k
        have hco := hblk.cell k (by omega)
        generalize out.getD k 0 = o at *
        have z1 := dig_lt (by omega) hX k
        have z2 := dig_lt (by omega) hY k
        have HV := hide (vb_add_step X Y out k cy (by omega) hval)
        generalize X.getD k 0 = x at *
        generalize Y.getD k 0 = y at *
        have e0 : (x : Int) + (y : Int) + (cy : Int) = ((x + y + cy : Nat) : Int) := by omega
        have b0 : x + y + cy < 18446744073709551616 := by omega
        have e1 : ((x + y + cy : Nat) : Int) % 4294967296 = (((x + y + cy) % 4294967296 : Nat) : Int) := by omega
        have e2 : ((x + y + cy : Nat) : Int) / 4294967296 = (((x + y + cy) / 4294967296 : Nat) : Int) := by omega
        have b1 : (x + y + cy) % 4294967296 < 4294967296 := by omega
        have b2 : (x + y + cy) / 4294967296 ≤ 1 := by omega
        generalize (x + y + cy) % 4294967296 = m at *
        generalize (x + y + cy) / 4294967296 = d at *
        generalize x + y + cy = s at *
        clear hval hblk hbl A1 A2 hX hY
        go_wp2_with fail
        refine H1.mono ?_
        rintro e w2 ⟨rfl, rfl⟩
        go_wp2_with fail
        refine H2.mono ?_
        rintro e w2 ⟨rfl, rfl⟩
        clear H1 H2
        go_wp2
        go_roundw
        case rel => exact ⟨k + 1, d, out.set k m, by omega, by go_num, rfl, b2, by simp; omega, digs_set hdo _ _ b1, HB.out.set k m, HL.out.setCell (Nat.le_refl _) _, HV.out⟩
        case measure => simp [intOf]; omega
      · have ek : k = X.length + 1 := by omega
        subst ek
        have hve := radd_end hX hY X.length cy (by omega) (by omega) hlen hval
        have hA := Ans.of_blk (base := w.heap.size) (zs := out) (Nat.le_refl _) hblk List.take_length.symm (Nat.le_refl _) (by omega) (digs_limbs hdo)
        have H := norm_new w.heap.size _ _ _ (hA.arg (by omega)) hdo (by omega) (New.at _ _ _ _ _ (Nat.le_refl _))
        rw [hlen, hve] at H
        clear hval hblk hbl A1 A2 hX hY hA hve HB
        have hd1 : decide ((X.length : Int) + 1 ≤ (X.length : Int)) = false := decide_eq_false (by omega)
        go_wp2_with fail
        refine H.mono ?_
        rintro e w2 ⟨⟨v', rfl, hnum, hnw⟩, rfl⟩
        have HN := hide (And.intro hnum hnw)
        clear hnum hnw H
        go_wp2
        go_ret
        exact ⟨⟨v', rfl, HN.out.1, HN.out.2⟩, HL.out⟩

theorem radd_any (v1 v2 : Value) (x y : Nat) (w : World) (h1 : Num w v1 x) (h2 : Num w v2 y) (f1 : blen x ≤ 1125899906809856) (f2 : blen y ≤ 1125899906809856) :
    Calls Tryd.prog 59 #[v1, v2] w fun e w' => (∃ v', e = .returned v' ∧ Num w' v' (x + y)) ∧ Below w.heap.size w w' :=
  (radd_new v1 v2 x y w h1 h2 f1 f2).mono fun _ _ ⟨⟨v', h1, h2, _⟩, h3⟩ => ⟨⟨v', h1, h2⟩, h3⟩

end Go.Proofs.YtmloigbacfllhaaDoor
