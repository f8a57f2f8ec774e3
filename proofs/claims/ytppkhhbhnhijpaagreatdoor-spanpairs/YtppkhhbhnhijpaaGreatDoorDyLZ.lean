/- Package dyadic: sum, read. -/
import Derived.Test.YtppkhhbhnhijpaaGreatDoorQ9
import Derived.Test.YtppkhhbhnhijpaaGreatDoorQB
namespace Go.Proofs.YtppkhhbhnhijpaaGreatDoor
open Go.RowKit
open Lm
attribute [local go_sem ↓] Go.wp_at_zero Go.wp_at_succ

theorem YDone.trimmed {w w' : World} {g : Nat} {Z : List Nat} {x : Nat} (hg : w.heap.size ≤ g) (hb : Blk w' g Z) (hl : Limbs Z) (hz : Z.length ≤ 1125899906842624) (hx : val Z = x) (hbel : Below w.heap.size w w') :
    Calls Tryz.prog 128 #[.slice (some ⟨g, 0, none⟩) Z.length Z.length] w' fun e w'' => e = .returned (.slice (some ⟨g, 0, none⟩) (tr Z).length Z.length) ∧ w'' = w' ∧ YDone w x e w'' := by
  have HA := Ans.of_blk (base := w.heap.size) (zs := Z) hg hb (by simp) (Nat.le_refl _) (by omega) hl
  obtain ⟨a, c, e, T, _⟩ := (HA.arg hz).ytrim
  cases e
  refine (T w' (Below.refl _ _)).mono ?_
  rintro e w'' ⟨rfl, rfl⟩
  exact ⟨rfl, rfl, ⟨_, _, _, tr Z, rfl, HA.trim, rfl, by rw [val_tr]; exact hx, tr_tr Z⟩, hbel⟩

theorem lm_nat (X : List Nat) (k : Nat) : lm X (k : Int) = X.getD k 0 := by unfold lm; rw [if_neg (by omega)]; rfl

theorem sum_end {X Y out : List Nat} {m cy : Nat} (hX : Limbs X) (hY : Limbs Y) (h1 : X.length < m) (h2 : Y.length < m) (ho : out.length = m) (h : val (out.take m) + cy * 18446744073709551616 ^ m = val (X.take m) + val (Y.take m)) : val out = val X + val Y := by
  rw [List.take_of_length_le (by omega), List.take_of_length_le (by omega), List.take_of_length_le (by omega)] at h
  have k1 := val_lt hX
  have k2 := val_lt hY
  obtain ⟨q, rfl⟩ : ∃ q, m = q + 1 := ⟨m - 1, by omega⟩
  have p1 : (18446744073709551616 : Nat) ^ X.length ≤ 18446744073709551616 ^ q := Nat.pow_le_pow_right (by omega) (by omega)
  have p2 : (18446744073709551616 : Nat) ^ Y.length ≤ 18446744073709551616 ^ q := Nat.pow_le_pow_right (by omega) (by omega)
  rw [Nat.pow_succ] at h
  rcases Nat.eq_zero_or_pos cy with h0 | h0
  · subst h0; omega
  · exfalso
    have h3 : 1 * (18446744073709551616 ^ q * 18446744073709551616) ≤ cy * (18446744073709551616 ^ q * 18446744073709551616) := Nat.mul_le_mul_right _ h0
    generalize (18446744073709551616 : Nat) ^ q = B at *
    generalize cy * (B * 18446744073709551616) = C at *
    omega

set_option maxRecDepth 20000 in
set_option maxHeartbeats 1000000 in
theorem ysum_any (v1 v2 : Value) (X Y : List Nat) (w : World) (h1 : Arg w v1 X) (h2 : Arg w v2 Y) (f1 : X.length ≤ 35184372088000) (f2 : Y.length ≤ 35184372088000) :
    Calls Tryz.prog 154 #[v1, v2] w (YDone w (val X + val Y)) := by
  obtain ⟨m, hm⟩ : ∃ m, m = max X.length Y.length + 1 := ⟨_, rfl⟩
  have e1 : max (X.length : Int) (Y.length : Int) = ((m - 1 : Nat) : Int) := by omega
  obtain ⟨q, hq⟩ : ∃ q, m = q + 1 := ⟨m - 1, by omega⟩
  have e2 : max (X.length : Int) (Y.length : Int) = (q : Int) := by omega
  have e3 : (q : Int) + 1 = (m : Int) := by omega
  have hXm : X.length < m := by omega
  have hYm : Y.length < m := by omega
  have hmm : m ≤ 35184372088001 := by omega
  obtain ⟨i0, hi, hz0, hz1, hz2⟩ := info_parts Tryz.infoU
  obtain ⟨a1, c1, rfl, hc1, hm1, hl1⟩ := h1.form
  obtain ⟨a2, c2, rfl, hc2, hm2, hl2⟩ := h2.form
  have M1 := h1.limbs
  have M2 := h2.limbs
  have HLS := hide (And.intro hl1 hl2)
  clear e1 hm hq h1 h2 hl1 hl2
  go_enter Tryz.func154, Tryz.ntmps154
  go_wp2_with (at_make; refine wpList_make_full _ rfl _ _ 27 rfl w.heap.size 108 i0 (.int .u64 0) 1 Tryz.underlying27 hi hz0 hz1 .i64 .i64 _ _ m rfl rfl (by omega) (by omega) (by rw [hz2]; omega) (by unfold maxLen; omega) (Nat.le_refl _) ?_; intro wm hown hgrow)
  have hb1 := Blk.made hown
  have hbel : Below w.heap.size w wm := (Below.refl _ _).grown hgrow (Nat.le_refl _) (fun k hk => by cases hk)
  clear hown hgrow hi hz0 hz1 hz2
  go_loopw [6, 17] (fun c i wr => ∃ (k cy : Nat) (out : List Nat), k ≤ m ∧ i = .int .i64 k ∧ c = .int .u64 cy ∧ cy ≤ 1 ∧ out.length = m ∧ Limbs out ∧ Blk wr w.heap.size out ∧ Below w.heap.size w wr ∧
      val (out.take k) + cy * 18446744073709551616 ^ k = val (X.take k) + val (Y.take k)) (fun _ i _ => m - (intOf i).toNat)
  case atStart => exact ⟨0, 0, _, Nat.zero_le _, rfl, rfl, by omega, by simp, limbs_replicate _, hb1, hbel, by simp [val]⟩
  case round =>
    obtain ⟨k, cy, out, hk, rfl, rfl, hcy, hlen, hlo, hblk, hbl, hval⟩ := hrel
    clear hb1 hbel
    by_cases hkl : k < m
    · have L1 := ylimb_any a1 c1 X (k : Int) wr hc1 hm1 (HLS.out.1.below hbl)
      have L2 := ylimb_any a2 c2 Y (k : Int) wr hc2 hm2 (HLS.out.2.below hbl)
      rw [lm_nat] at L1 L2
      have hfr := hblk.free k
      have hco := hblk.cell k (by omega)
      have ha := add64 (X.getD k 0) (Y.getD k 0) cy hcy
      have hst := add_step X Y out k cy (by omega) hval
      have z1 := limb_lt M1 k
      have z2 := limb_lt M2 k
      have HB := hide hblk
      have HL := hide hbl
      clear hval hblk hbl
      generalize X.getD k 0 = x at *
      generalize Y.getD k 0 = y at *
      generalize out.getD k 0 = o at *
      have hs1 : (x + y + cy) % 18446744073709551616 < 18446744073709551616 := Nat.mod_lt _ (by omega)
      have hd1 : (x + y + cy) / 18446744073709551616 ≤ 1 := by omega
      generalize (x + y + cy) % 18446744073709551616 = s at *
      generalize (x + y + cy) / 18446744073709551616 = d at *
      have HS := hide hst
      clear hst
      have hi1 : (0 : Int) ≤ (k : Int) := by omega
      have hi2 : (k : Int) < (m : Int) := by omega
      go_wp2_with fail
      refine L1.mono ?_
      rintro e wn ⟨rfl, hw⟩; rw [hw]; clear hw wn L1
      go_wp2_with fail
      refine L2.mono ?_
      rintro e wn ⟨rfl, hw⟩; rw [hw]; clear hw wn L2
      go_wp2
      go_roundw
      case rel => exact ⟨k + 1, d, out.set k s, by omega, by go_num, rfl, hd1, by simp; omega, limbs_set hlo _ _ hs1, HB.out.set k s, HL.out.setCell (Nat.le_refl _) _, HS.out⟩
      case measure => simp [intOf]; omega
    · have ek : k = m := by omega
      subst ek
      have hv := sum_end M1 M2 hXm hYm hlen hval
      have HT := YDone.trimmed (Nat.le_refl _) hblk hlo (by omega) hv hbl
      rw [hlen] at HT
      clear hv hval hblk hlo hbl
      go_wp2_with fail
      refine HT.mono ?_
      rintro e wn ⟨rfl, hw, hd⟩; rw [hw] at hd ⊢; clear hw wn HT
      have HD := hide hd
      clear hd
      go_wp2
      go_returns
      exact HD.out

/-- read of what means something. -/
def YRead (w : World) (M E : Int) (e : Ending) (w' : World) : Prop :=
  (∃ b a n k X, e = .returned (.tuple #[.agg #[.bool b, .slice a n k, .int .i64 E], .int .i64 0]) ∧ n = X.length ∧ Nm w' b (.slice a n k) X M ∧ (X = [] → b = false)) ∧ Below w.heap.size w w'

set_option maxRecDepth 20000 in
set_option maxHeartbeats 1000000 in
theorem yread_ok (b : Bool) (a : Option Addr) (c : Nat) (X : List Nat) (ex : Int) (w : World) (hA : Arg w (.slice a X.length c) X) (hT : Tab w) (hf : X.length ≤ 17592186044416) (hE : fitE ex = true) :
    Calls Tryz.prog 120 #[.agg #[.bool b, .slice a X.length c, .int .i64 ex]] w (YRead w (omz (zz b (val X))) (oe (zz b (val X)) ex)) := by
  obtain ⟨w0, hw0, hb0, h0, h1'⟩ := enter2 w (.cells #[.bool b, .slice a X.length c, .int .i64 ex] 31) (.cells #[.bool false, .slice none 0 0, .int .i64 0] 153)
  obtain ⟨k0, k1, k2⟩ := tri8 h0
  have HP := yseen_ok b a c X ex w0 (hA.below hb0) hE
  have hAT : Arg w (.slice a (tr X).length c) (tr X) := hA.trim
  have hEr := (fitE_iff ex).1 hE
  have HN := hide (fun (W : World) (hg : Below w.heap.size w W) => ynormal_any b a c (tr X) (zz b (val X)) ex W ⟨hAT.below hg, tr_tr X, by rw [val_tr]⟩ (hT.below hg) (by omega) (by omega) (by have := tr_length_le X; omega))
  have HC := hide h1'
  have HB := hide hb0
  clear h0 h1' hb0 hE hA hT hAT
  generalize oe (zz b (val X)) ex = E at *
  generalize omz (zz b (val X)) = M at *
  go_enter Tryz.func120, Tryz.ntmps120
  go_wp2_with fail
  refine HP.mono ?_
  rintro e t1 ⟨rfl, g1⟩
  obtain ⟨w4, hw4, hb4, h4⟩ := enter1 t1 (.cells #[.bool b, .slice a (tr X).length c, .int .i64 ex] 153)
  have HG1 := hide (bl_trans8 (bl_trans8 HB.out g1) hb4)
  have HC0 := hide (block_upW hb4 (block_upW g1 HC.out))
  have HH := HN.out w4 HG1.out
  obtain ⟨l0, l1, l2⟩ := tri8 h4
  clear g1 hb4 h4 HP HN HC HB k0 k1 k2
  go_wp2_with fail
  refine HH.mono ?_
  rintro e t2 ⟨⟨b1, a1, n1, c1, X1, rfl, hn, N1, hb1⟩, g2⟩
  have HC1 := hide (block_upW g2 HC0.out)
  have HG := hide (bl_trans8 HG1.out g2)
  have HNM := hide N1
  have HHN := hide (And.intro hn hb1)
  have hf1 := tri8f HC1.out
  obtain ⟨m0, m1, m2⟩ := tri8 HC1.out
  clear N1 g2 HH HC0 hn hb1
  go_wp2
  have T3 := tri8_all HC1.out (.bool b1) (.slice a1 n1 c1) (.int .i64 E)
  have T4 := below_tri8 HG.out (show w.heap.size ≤ w.heap.size + 1 by omega) (.bool b1) (.slice a1 n1 c1) (.int .i64 E)
  have T5 := HNM.out.tri8 HC1.out b1 a1 n1 c1 (.int .i64 E)
  obtain ⟨p0, p1, p2⟩ := tri8 T3
  have HE := hide (And.intro T5 T4)
  clear T3 T4 T5
  generalize ((t2.setCell ⟨w.heap.size + 1, 0, none⟩ (.bool b1)).setCell ⟨w.heap.size + 1, 1, none⟩ (.slice a1 n1 c1)).setCell ⟨w.heap.size + 1, 2, none⟩ (.int .i64 E) = w5 at *
  refine bodyPost_ret (v := .tuple #[.agg #[.bool b1, .slice a1 n1 c1, .int .i64 E], .int .i64 0]) (by simp [results, Tryz.results120, go_sem, p0, p1, p2]) rfl ?_
  exact ⟨⟨_, _, _, _, X1, rfl, HHN.out.1, HE.out.1, HHN.out.2⟩, HE.out.2⟩

set_option maxRecDepth 20000 in
set_option maxHeartbeats 1000000 in
theorem yread_no (b : Bool) (a : Option Addr) (n c : Nat) (ex : Int) (w : World) (hE : fitE ex = false) :
    Calls Tryz.prog 120 #[.agg #[.bool b, .slice a n c, .int .i64 ex]] w fun e w' => e = .returned (.tuple #[.agg #[.bool false, .slice none 0 0, .int .i64 0], .int .i64 80]) ∧ Below w.heap.size w w' := by
  obtain ⟨w0, hw0, hb0, h0, h1'⟩ := enter2 w (.cells #[.bool b, .slice a n c, .int .i64 ex] 31) (.cells #[.bool false, .slice none 0 0, .int .i64 0] 153)
  obtain ⟨k0, k1, k2⟩ := tri8 h0
  have HP := yseen_no b a n c ex w0 hE
  have HC := hide h1'
  have HB := hide hb0
  clear h0 h1' hb0 hE
  go_enter Tryz.func120, Tryz.ntmps120
  go_wp2_with fail
  refine HP.mono ?_
  rintro e t1 ⟨he, g1⟩
  obtain ⟨fb, fa, fc, fe, rfl⟩ : ∃ fb fa fc fe, e = .returned (.tuple #[.agg #[.bool fb, .slice fa 0 fc, .int .i64 fe], .int .i64 80]) := ⟨_, _, _, _, he⟩
  clear he
  obtain ⟨w4, hw4, hb4, h4⟩ := enter1 t1 (.cells #[.bool fb, .slice fa 0 fc, .int .i64 fe] 153)
  have HH := ynormal_zero fb fa fc fe w4
  have HG1 := hide (bl_trans8 (bl_trans8 HB.out g1) hb4)
  have HC0 := hide (block_upW hb4 (block_upW g1 HC.out))
  obtain ⟨l0, l1, l2⟩ := tri8 h4
  clear g1 hb4 h4 HP
  go_wp2_with fail
  refine HH.mono ?_
  rintro e t2 ⟨rfl, g2⟩
  have HC1 := hide (block_upW g2 HC0.out)
  have HG := hide (bl_trans8 HG1.out g2)
  have HNM := hide (Nm.zero t2 false)
  have hf1 := tri8f HC1.out
  obtain ⟨m0, m1, m2⟩ := tri8 HC1.out
  clear g2 HH HC0
  go_wp2
  have T3 := tri8_all HC1.out (.bool false) (.slice none 0 0) (.int .i64 0)
  have T4 := below_tri8 HG.out (show w.heap.size ≤ w.heap.size + 1 by omega) (.bool false) (.slice none 0 0) (.int .i64 0)
  have T5 := HNM.out.tri8 HC1.out false none 0 0 (.int .i64 0)
  obtain ⟨p0, p1, p2⟩ := tri8 T3
  have HE := hide (And.intro T5 T4)
  clear T3 T4 T5
  generalize ((t2.setCell ⟨w.heap.size + 1, 0, none⟩ (.bool false)).setCell ⟨w.heap.size + 1, 1, none⟩ (.slice none 0 0)).setCell ⟨w.heap.size + 1, 2, none⟩ (.int .i64 0) = w5 at *
  refine bodyPost_ret (v := .tuple #[.agg #[.bool false, .slice none 0 0, .int .i64 0], .int .i64 80]) (by simp [results, Tryz.results120, go_sem, p0, p1, p2]) rfl ?_
  exact ⟨rfl, HE.out.2⟩

end Go.Proofs.YtppkhhbhnhijpaaGreatDoor
