/- Package dyadic: less, man, total, answered. -/
import Derived.Test.YtppkhhbhnhijpaaGreatDoorDyLZ
import Derived.Test.YtppkhhbhnhijpaaGreatDoorDyZZ
import Derived.Test.YtppkhhbhnhijpaaGreatDoorQB
namespace Go.Proofs.YtppkhhbhnhijpaaGreatDoor
open Go.RowKit
open Lm
attribute [local go_sem ↓] Go.wp_at_zero Go.wp_at_succ

set_option maxRecDepth 20000 in
set_option maxHeartbeats 1000000 in
theorem yless_any (v1 v2 : Value) (zs ys : List Nat) (w : World) (h1 : Arg w v1 zs) (h2 : Arg w v2 ys) (f1 : zs.length ≤ 35184372088831) (hyl : ys.length ≤ zs.length) (hle : val ys ≤ val zs) :
    Calls Tryz.prog 156 #[v1, v2] w (YDone w (val zs - val ys)) := by
  obtain ⟨i0, hi, hz0, hz1, hz2⟩ := info_parts Tryz.infoU
  obtain ⟨a1, c1, rfl, hc1, hm1, hl1⟩ := h1.form
  obtain ⟨a2, c2, rfl, hc2, hm2, hl2⟩ := h2.form
  have M1 := h1.limbs
  have M2 := h2.limbs
  have HX : Hid (val ys ≤ val zs) := hle
  have L1 := hl1
  have L2 := hl2
  clear h1 h2 hl1 hl2 hle
  go_enter Tryz.func156, Tryz.ntmps156
  go_wp2_with (at_make; refine wpList_make_full _ rfl _ _ 27 rfl w.heap.size 108 i0 (.int .u64 0) 1 Tryz.underlying27 hi hz0 hz1 .i64 .i64 _ _ zs.length rfl rfl (by omega) (by omega) (by rw [hz2]; omega) (by unfold maxLen; omega) (Nat.le_refl _) ?_; intro wm hown hgrow)
  have hb1 := Blk.made hown
  have hbel : Below w.heap.size w wm := (Below.refl _ _).grown hgrow (Nat.le_refl _) (fun k hk => by cases hk)
  clear hown hgrow hi hz0 hz1 hz2
  go_loopw [6, 13] (fun c i wr => ∃ (k cy : Nat) (out : List Nat), k ≤ zs.length ∧ i = .int .i64 k ∧ c = .int .u64 cy ∧ cy ≤ 1 ∧ out.length = zs.length ∧ Limbs out ∧ Blk wr w.heap.size out ∧ Below w.heap.size w wr ∧
      val (out.take k) + val (ys.take k) = val (zs.take k) + cy * 18446744073709551616 ^ k) (fun _ i _ => zs.length - (intOf i).toNat)
  case atStart => exact ⟨0, 0, _, Nat.zero_le _, rfl, rfl, by omega, by simp, limbs_replicate _, hb1, hbel, by simp [val]⟩
  case round =>
    obtain ⟨k, cy, out, hk, rfl, rfl, hcy, hlen, hlo, hblk, hbl, hval⟩ := hrel
    clear hb1 hbel
    have HV : Hid (val (out.take k) + val (ys.take k) = val (zs.take k) + cy * 18446744073709551616 ^ k) := hval
    clear hval
    have HB : Hid (Blk wr w.heap.size out) := hblk
    have HL : Hid (Below w.heap.size w wr) := hbl
    by_cases hkl : k < zs.length
    · rcases L1.below hbl with h0 | ⟨b, off, rfl, hcell⟩
      · simp [h0] at hkl
      · have H42 := ylimb_any a2 c2 ys (k : Int) wr.drew hc2 hm2 (L2.below hbl.drew)
        rw [lm_nat] at H42
        have hck := hcell k hkl
        have hbw := Lies.block (L1 : Lies w (some ⟨b, off, none⟩) zs) (by omega)
        have hne1 : ¬ b = w.heap.size := by omega
        have hne2 : ¬ w.heap.size = b := by omega
        have hfr := hblk.free k
        have hco := hblk.cell k (by omega)
        have ha := sub64 (zs.getD k 0) (ys.getD k 0) cy hcy
        have z1 := limb_lt M1 k
        have z2 := limb_lt M2 k
        have hst := sub_step zs ys out k cy (by omega) z1 z2 hcy HV.out
        have hd1 := bor_le (zs.getD k 0) (ys.getD k 0) cy
        generalize bor (zs.getD k 0) (ys.getD k 0) cy = d at *
        generalize zs.getD k 0 = x at *
        generalize ys.getD k 0 = y at *
        generalize out.getD k 0 = o at *
        have hs1 : (x + 18446744073709551616 - y - cy) % 18446744073709551616 < 18446744073709551616 := Nat.mod_lt _ (by omega)
        generalize (x + 18446744073709551616 - y - cy) % 18446744073709551616 = s at *
        have HS' : Hid (val ((out.set k s).take (k + 1)) + val (ys.take (k + 1)) = val (zs.take (k + 1)) + d * 18446744073709551616 ^ (k + 1)) := hst
        clear hst hcell hblk hbl HV L1 L2 M1 M2
        have hi1 : (0 : Int) ≤ (k : Int) := by omega
        have hi2 : (k : Int) < (zs.length : Int) := by omega
        go_wp2
        go_region_held3 (fun w' => w'.cell? ⟨b, off + k, none⟩ = some (.int .u64 x)) (go_keep) (first | (go_at_call 167; refine H42.mono ?_; rintro e w2 ⟨rfl, rfl⟩))
        go_wp2
        go_roundw
        case rel => exact ⟨k + 1, d, out.set k s, by omega, by go_num, rfl, hd1, by simp; omega, limbs_set hlo _ _ hs1, HB.out.set k s, (HL.out.setCell (Nat.le_refl _) _).drew, HS'.out⟩
        case measure => simp [intOf]; omega
    · have ek : k = zs.length := by omega
      subst ek
      have hvl : val out = val zs - val ys := sub_end hlo hlen hyl HX.out cy hcy HV.out
      have HT := YDone.trimmed (Nat.le_refl _) hblk hlo (by omega) hvl hbl
      rw [hlen] at HT
      clear hvl hblk hbl HV L1 L2 M1 M2 HB hlo
      go_wp2_with fail
      refine HT.mono ?_
      rintro e wn ⟨rfl, hw, hd⟩; rw [hw] at hd ⊢; clear hw wn HT
      have HD := hide hd
      clear hd
      go_wp2
      go_returns
      exact HD.out

theorem yman_any (b : Bool) (a : Option Addr) (n c : Nat) (w : World) :
    Calls Tryz.prog 145 #[.agg #[.bool b, .slice a n c]] w fun e w' => e = .returned (.agg #[.bool b, .slice a n c]) ∧ Below w.heap.size w w' := by
  obtain ⟨w0, hw0, hb0, h0, h1⟩ := enter2 w (.cells #[.bool b, .slice a n c] 150) (.cells #[.bool false, .slice none 0 0] 29)
  obtain ⟨k0, k1⟩ := duo h0
  have hf := duof h1
  obtain ⟨m0, m1⟩ := duo h1
  have H1 := hide h1
  have HB := hide hb0
  clear h0 h1 hb0
  go_enter Tryz.func145, Tryz.ntmps145
  go_wp2
  have T3 := duo_all H1.out (a' := .bool b) (b' := .slice a n c)
  have T4 := below_duo HB.out (g := w.heap.size + 1) (u0 := .bool b) (u1 := .slice a n c) (by omega)
  obtain ⟨p0, p1⟩ := duo T3
  have HE := hide T4
  clear T3 T4
  generalize (w0.setCell ⟨w.heap.size + 1, 0, none⟩ (.bool b)).setCell ⟨w.heap.size + 1, 1, none⟩ (.slice a n c) = w5 at *
  refine bodyPost_ret (v := .agg #[.bool b, .slice a n c]) (by simp [results, Tryz.results145, go_sem, p0, p1]) rfl ?_
  exact ⟨rfl, HE.out⟩

theorem blen_add8 {x y : Nat} (n : Nat) (hx : blen x ≤ n) (hy : blen y ≤ n) : blen (x + y) ≤ n + 1 := by
  have h1 := (blen_le_iff _ _).1 hx
  have h2 := (blen_le_iff _ _).1 hy
  refine (blen_le_iff _ _).2 ?_
  rw [Nat.pow_succ]
  omega

theorem blen_lenU {X : List Nat} (h : Limbs X) : blen (val X) ≤ 64 * X.length := by rw [blen_le_iff, Nat.mul_comm, ← W_pow]; exact val_lt h

/-- A part of the program's number. -/
def YPart (w : World) (z : Int) (e : Ending) (w' : World) : Prop :=
  (∃ b a n k X, e = .returned (.agg #[.bool b, .slice a n k]) ∧ n = X.length ∧ Nm w' b (.slice a n k) X z) ∧ Below w.heap.size w w'

theorem norm_len {X Y : List Nat} (hX : Limbs X) (h : tr Y = Y) (hle : val Y ≤ val X) : Y.length ≤ X.length := by
  have h1 := val_lt hX
  rw [W_pow] at h1
  have h2 : blen (val Y) ≤ X.length * 64 := (blen_le_iff _ _).2 (Nat.lt_of_le_of_lt hle h1)
  exact few_ofW h rfl h2

set_option maxRecDepth 20000 in
set_option maxHeartbeats 2000000 in
theorem ytotal_any (b1 : Bool) (a1 : Option Addr) (c1 : Nat) (X : List Nat) (y : Int) (b2 : Bool) (a2 : Option Addr) (c2 : Nat) (Y : List Nat) (z : Int) (w : World) (h1 : Nm w b1 (.slice a1 X.length c1) X y) (h2 : Nm w b2 (.slice a2 Y.length c2) Y z) (f1 : X.length ≤ 35184372088000) (f2 : Y.length ≤ 35184372088000) :
    Calls Tryz.prog 141 #[.agg #[.bool b1, .slice a1 X.length c1], .agg #[.bool b2, .slice a2 Y.length c2]] w (YPart w (y + z)) := by
  obtain ⟨w0, hw0, hb0, k0, k1, k2⟩ := enter3 w (.cells #[.bool b1, .slice a1 X.length c1] 150) (.cells #[.bool b2, .slice a2 Y.length c2] 150) (.cells #[.bool false, .slice none 0 0] 150)
  obtain ⟨x0, x1⟩ := duo k0
  obtain ⟨x2, x3⟩ := duo k1
  have hlen : ∀ rs : List Nat, tr rs = rs → val rs ≤ val X + val Y → rs.length ≤ 35184372088001 := by
    intro rs hr hv
    refine few_ofW hr rfl ?_
    have l1 := blen_lenU h1.arg.limbs
    have l2 := blen_lenU h2.arg.limbs
    have l3 := blen_add8 (x := val X) (y := val Y) 2251799813632000 (by omega) (by omega)
    have l4 := blen_mono hv
    omega
  have HLEN := hide hlen
  have HN1 := hide h1
  have HN2 := hide h2
  by_cases hb : b1 = b2
  · subst hb
    have gdW : Below w.heap.size w w0.drew := hb0.drew
    have HW := ysum_any _ _ X Y w0.drew (h1.arg.below gdW) (h2.arg.below gdW) f1 f2
    have hyz : y + z = zz b1 (val X + val Y) := by rw [← h1.val, ← h2.val, zz_add]
    rw [hyz]
    have hbe : (b1 == b1) = true := by simp
    have g0 : Below w0.drew.heap.size w0.drew w0.drew := Below.refl _ _
    have KS := hide (fun (W : World) (hg : Below w0.drew.heap.size w0.drew W) => show W.cell? ⟨w.heap.size, 0, none⟩ = some (.bool b1) ∧ W.cell? ⟨w.heap.size, 1, none⟩ = some (.slice a1 X.length c1) ∧ W.cell? ⟨w.heap.size + 1, 0, none⟩ = some (.bool b1) ∧ W.cell? ⟨w.heap.size + 1, 1, none⟩ = some (.slice a2 Y.length c2) from by
      obtain ⟨y0, y1⟩ := duo (block_upW hg (show w0.drew.heap[w.heap.size]? = some (.cells #[.bool b1, .slice a1 X.length c1] 150) from k0))
      obtain ⟨y2, y3⟩ := duo (block_upW hg (show w0.drew.heap[w.heap.size + 1]? = some (.cells #[.bool b1, .slice a2 Y.length c2] 150) from k1))
      exact ⟨y0, y1, y2, y3⟩)
    have so : ∀ (W : World) (k : Nat) (u : Value) (k' : Nat), (W.setCell ⟨w.heap.size + 2, k, none⟩ u).cell? ⟨w.heap.size, k', none⟩ = W.cell? ⟨w.heap.size, k', none⟩ := fun W k u k' => cell_other8 (by omega)
    have so2 : ∀ (W : World) (k : Nat) (u : Value) (k' : Nat), (W.setCell ⟨w.heap.size + 2, k, none⟩ u).cell? ⟨w.heap.size + 1, k', none⟩ = W.cell? ⟨w.heap.size + 1, k', none⟩ := fun W k u k' => cell_other8 (by omega)
    have H1 := hide (show w0.drew.heap[w.heap.size + 2]? = some (.cells #[.bool false, .slice none 0 0] 150) from k2)
    have HB := hide gdW
    clear k0 k1 k2 hb0 gdW hlen h1 h2 hyz
    go_enter Tryz.func141, Tryz.ntmps141
    go_wp2
    go_region_held3 (fun w' => w'.cell? ⟨w.heap.size, 0, none⟩ = some (.bool b1) ∧ w'.cell? ⟨w.heap.size, 1, none⟩ = some (.slice a1 X.length c1) ∧ w'.cell? ⟨w.heap.size + 1, 0, none⟩ = some (.bool b1) ∧ w'.cell? ⟨w.heap.size + 1, 1, none⟩ = some (.slice a2 Y.length c2)) (first | with_reducible exact KS.out _ g1 | with_reducible exact KS.out _ g0 | (refine ⟨?_, ?_, ?_, ?_⟩ <;> (first | rw [so, so] | rw [so2, so2]) <;> first | exact (KS.out _ g1).1 | exact (KS.out _ g1).2.1 | exact (KS.out _ g1).2.2.1 | exact (KS.out _ g1).2.2.2)) (first
      | (go_at_call 154; refine HW.mono ?_; rintro e' t1 ⟨⟨a3, n3, c3, r3, rfl, A3, hn3, v3, q3⟩, g1⟩; have HN3 := hide hn3; clear hn3; have hz := block_upW g1 H1.out; have hf := duof hz; obtain ⟨m0, m1⟩ := duo hz))
    have T3 := duo_all hz (a' := .bool b1) (b' := .slice a3 n3 c3)
    have T4 := below_duo (bl_trans8 HB.out g1) (g := w.heap.size + 1 + 1) (u0 := .bool b1) (u1 := .slice a3 n3 c3) (by omega)
    have T5 : Ans ((t1.setCell ⟨w.heap.size + 1 + 1, 0, none⟩ (.bool b1)).setCell ⟨w.heap.size + 1 + 1, 1, none⟩ (.slice a3 n3 c3)) _ (.slice a3 n3 c3) r3 := (A3.off8 hz (by decide)).off8 (box_modify hz (.bool b1)) (by decide)
    obtain ⟨p0, p1⟩ := duo T3
    have HE := hide (And.intro T5 T4)
    have HN := hide (And.intro HN3.out (And.intro v3 q3))
    clear T3 T4 T5 so so2 m0 m1 hf KS g0 g1 HW hz A3 HN3 v3 q3
    generalize (t1.setCell ⟨w.heap.size + 1 + 1, 0, none⟩ (.bool b1)).setCell ⟨w.heap.size + 1 + 1, 1, none⟩ (.slice a3 n3 c3) = w5 at *
    go_wp2
    refine bodyPost_ret (v := .agg #[.bool b1, .slice a3 n3 c3]) (by simp [results, Tryz.results141, go_sem, p0, p1]) rfl ?_
    exact ⟨⟨_, _, _, _, r3, rfl, HN.out.1, ⟨HE.out.1.arg (by have := HLEN.out r3 HN.out.2.2 (by rw [HN.out.2.1]; omega); omega), HN.out.2.2, by rw [HN.out.2.1]⟩⟩, HE.out.2⟩
  · have hbe : (b1 == b2) = false := by rw [beq_eq_false_iff_ne]; exact hb
    have hb2 : b2 = !b1 := by cases b1 <;> cases b2 <;> simp_all
    have HC := compare_any _ _ X Y w0 (h1.arg.below hb0) (h2.arg.below hb0)
    by_cases hlt : val X < val Y
    · rw [cmpN_lt hlt] at HC
      have HWW := hide (fun (W : World) (hg : Below w.heap.size w W) => yless_any _ _ Y X W (h2.arg.below hg) (h1.arg.below hg) (by omega) (norm_len h2.arg.limbs h1.norm (by omega)) (by omega))
      have hyz : y + z = zz b2 (val Y - val X) := by rw [← h1.val, ← h2.val, hb2, zz_sub2 b1 (by omega)]
      rw [hyz]
      have HK := hide (And.intro k0 (And.intro k1 k2))
      have HB0 := hide hb0
      clear hb0 hlen h1 h2 hyz hlt hb hb2 k0 k1 k2
      go_enter Tryz.func141, Tryz.ntmps141
      go_wp2_with fail
      refine HC.mono ?_
      rintro e ta ⟨rfl, hs⟩
      obtain ⟨k0, k1, k2⟩ := HK.out
      have gdW : Below w.heap.size w ta.drew := (HB0.out.trans (hs.below _)).drew
      have hh : ta.drew.heap = w0.heap := hs.heap
      rw [← hh] at k0 k1 k2
      have HW := HWW.out ta.drew gdW
      have g0 : Below ta.drew.heap.size ta.drew ta.drew := Below.refl _ _
      have KS := hide (fun (W : World) (hg : Below ta.drew.heap.size ta.drew W) => show W.cell? ⟨w.heap.size, 0, none⟩ = some (.bool b1) ∧ W.cell? ⟨w.heap.size, 1, none⟩ = some (.slice a1 X.length c1) ∧ W.cell? ⟨w.heap.size + 1, 0, none⟩ = some (.bool b2) ∧ W.cell? ⟨w.heap.size + 1, 1, none⟩ = some (.slice a2 Y.length c2) from by
        obtain ⟨y0, y1⟩ := duo (block_upW hg (show ta.drew.heap[w.heap.size]? = some (.cells #[.bool b1, .slice a1 X.length c1] 150) from k0))
        obtain ⟨y2, y3⟩ := duo (block_upW hg (show ta.drew.heap[w.heap.size + 1]? = some (.cells #[.bool b2, .slice a2 Y.length c2] 150) from k1))
        exact ⟨y0, y1, y2, y3⟩)
      have so : ∀ (W : World) (k : Nat) (u : Value) (k' : Nat), (W.setCell ⟨w.heap.size + 2, k, none⟩ u).cell? ⟨w.heap.size, k', none⟩ = W.cell? ⟨w.heap.size, k', none⟩ := fun W k u k' => cell_other8 (by omega)
      have so2 : ∀ (W : World) (k : Nat) (u : Value) (k' : Nat), (W.setCell ⟨w.heap.size + 2, k, none⟩ u).cell? ⟨w.heap.size + 1, k', none⟩ = W.cell? ⟨w.heap.size + 1, k', none⟩ := fun W k u k' => cell_other8 (by omega)
      have H1 := hide (show ta.drew.heap[w.heap.size + 2]? = some (.cells #[.bool false, .slice none 0 0] 150) from k2)
      have HB := hide gdW
      clear k0 k1 k2 gdW hs hh HC HK HWW
      go_wp2
      go_region_held3 (fun w' => w'.cell? ⟨w.heap.size, 0, none⟩ = some (.bool b1) ∧ w'.cell? ⟨w.heap.size, 1, none⟩ = some (.slice a1 X.length c1) ∧ w'.cell? ⟨w.heap.size + 1, 0, none⟩ = some (.bool b2) ∧ w'.cell? ⟨w.heap.size + 1, 1, none⟩ = some (.slice a2 Y.length c2)) (first | with_reducible exact KS.out _ g1 | with_reducible exact KS.out _ g0 | (refine ⟨?_, ?_, ?_, ?_⟩ <;> (first | rw [so, so] | rw [so2, so2]) <;> first | exact (KS.out _ g1).1 | exact (KS.out _ g1).2.1 | exact (KS.out _ g1).2.2.1 | exact (KS.out _ g1).2.2.2)) (first
        | (go_at_call 156; refine HW.mono ?_; rintro e' t1 ⟨⟨a3, n3, c3, r3, rfl, A3, hn3, v3, q3⟩, g1⟩; have HN3 := hide hn3; clear hn3; have hz := block_upW g1 H1.out; have hf := duof hz; obtain ⟨m0, m1⟩ := duo hz))
      have T3 := duo_all hz (a' := .bool b2) (b' := .slice a3 n3 c3)
      have T4 := below_duo (bl_trans8 HB.out g1) (g := w.heap.size + 1 + 1) (u0 := .bool b2) (u1 := .slice a3 n3 c3) (by omega)
      have T5 : Ans ((t1.setCell ⟨w.heap.size + 1 + 1, 0, none⟩ (.bool b2)).setCell ⟨w.heap.size + 1 + 1, 1, none⟩ (.slice a3 n3 c3)) _ (.slice a3 n3 c3) r3 := (A3.off8 hz (by decide)).off8 (box_modify hz (.bool b2)) (by decide)
      obtain ⟨p0, p1⟩ := duo T3
      have HE := hide (And.intro T5 T4)
      have HN := hide (And.intro HN3.out (And.intro v3 q3))
      clear T3 T4 T5 so so2 m0 m1 hf KS g0 g1 HW hz A3 HN3 v3 q3
      generalize (t1.setCell ⟨w.heap.size + 1 + 1, 0, none⟩ (.bool b2)).setCell ⟨w.heap.size + 1 + 1, 1, none⟩ (.slice a3 n3 c3) = w5 at *
      go_wp2
      refine bodyPost_ret (v := .agg #[.bool b2, .slice a3 n3 c3]) (by simp [results, Tryz.results141, go_sem, p0, p1]) rfl ?_
      exact ⟨⟨_, _, _, _, r3, rfl, HN.out.1, ⟨HE.out.1.arg (by have := HLEN.out r3 HN.out.2.2 (by rw [HN.out.2.1]; omega); omega), HN.out.2.2, by rw [HN.out.2.1]⟩⟩, HE.out.2⟩
    · have hcm : ¬ cmpN (val X) (val Y) < 0 := by
        rcases cmpN_range (val X) (val Y) with h | h | h <;> omega
      generalize cmpN (val X) (val Y) = cc at *
      have hcd : decide (cc < 0) = false := decide_eq_false hcm
      have HWW := hide (fun (W : World) (hg : Below w.heap.size w W) => yless_any _ _ X Y W (h1.arg.below hg) (h2.arg.below hg) (by omega) (norm_len h1.arg.limbs h2.norm (by omega)) (by omega))
      have hyz : y + z = zz b1 (val X - val Y) := by rw [← h1.val, ← h2.val, hb2, zz_sub b1 (by omega)]
      rw [hyz]
      have HK := hide (And.intro k0 (And.intro k1 k2))
      have HB0 := hide hb0
      clear hb0 hlen h1 h2 hyz hlt hb hb2 k0 k1 k2
      go_enter Tryz.func141, Tryz.ntmps141
      go_wp2_with fail
      refine HC.mono ?_
      rintro e ta ⟨rfl, hs⟩
      obtain ⟨k0, k1, k2⟩ := HK.out
      have gdW : Below w.heap.size w ta.drew := (HB0.out.trans (hs.below _)).drew
      have hh : ta.drew.heap = w0.heap := hs.heap
      rw [← hh] at k0 k1 k2
      have HW := HWW.out ta.drew gdW
      have g0 : Below ta.drew.heap.size ta.drew ta.drew := Below.refl _ _
      have KS := hide (fun (W : World) (hg : Below ta.drew.heap.size ta.drew W) => show W.cell? ⟨w.heap.size, 0, none⟩ = some (.bool b1) ∧ W.cell? ⟨w.heap.size, 1, none⟩ = some (.slice a1 X.length c1) ∧ W.cell? ⟨w.heap.size + 1, 0, none⟩ = some (.bool b2) ∧ W.cell? ⟨w.heap.size + 1, 1, none⟩ = some (.slice a2 Y.length c2) from by
        obtain ⟨y0, y1⟩ := duo (block_upW hg (show ta.drew.heap[w.heap.size]? = some (.cells #[.bool b1, .slice a1 X.length c1] 150) from k0))
        obtain ⟨y2, y3⟩ := duo (block_upW hg (show ta.drew.heap[w.heap.size + 1]? = some (.cells #[.bool b2, .slice a2 Y.length c2] 150) from k1))
        exact ⟨y0, y1, y2, y3⟩)
      have so : ∀ (W : World) (k : Nat) (u : Value) (k' : Nat), (W.setCell ⟨w.heap.size + 2, k, none⟩ u).cell? ⟨w.heap.size, k', none⟩ = W.cell? ⟨w.heap.size, k', none⟩ := fun W k u k' => cell_other8 (by omega)
      have so2 : ∀ (W : World) (k : Nat) (u : Value) (k' : Nat), (W.setCell ⟨w.heap.size + 2, k, none⟩ u).cell? ⟨w.heap.size + 1, k', none⟩ = W.cell? ⟨w.heap.size + 1, k', none⟩ := fun W k u k' => cell_other8 (by omega)
      have H1 := hide (show ta.drew.heap[w.heap.size + 2]? = some (.cells #[.bool false, .slice none 0 0] 150) from k2)
      have HB := hide gdW
      clear k0 k1 k2 gdW hs hh HC HK HWW
      go_wp2
      go_region_held3 (fun w' => w'.cell? ⟨w.heap.size, 0, none⟩ = some (.bool b1) ∧ w'.cell? ⟨w.heap.size, 1, none⟩ = some (.slice a1 X.length c1) ∧ w'.cell? ⟨w.heap.size + 1, 0, none⟩ = some (.bool b2) ∧ w'.cell? ⟨w.heap.size + 1, 1, none⟩ = some (.slice a2 Y.length c2)) (first | with_reducible exact KS.out _ g1 | with_reducible exact KS.out _ g0 | (refine ⟨?_, ?_, ?_, ?_⟩ <;> (first | rw [so, so] | rw [so2, so2]) <;> first | exact (KS.out _ g1).1 | exact (KS.out _ g1).2.1 | exact (KS.out _ g1).2.2.1 | exact (KS.out _ g1).2.2.2)) (first
        | (go_at_call 156; refine HW.mono ?_; rintro e' t1 ⟨⟨a3, n3, c3, r3, rfl, A3, hn3, v3, q3⟩, g1⟩; have HN3 := hide hn3; clear hn3; have hz := block_upW g1 H1.out; have hf := duof hz; obtain ⟨m0, m1⟩ := duo hz))
      have T3 := duo_all hz (a' := .bool b1) (b' := .slice a3 n3 c3)
      have T4 := below_duo (bl_trans8 HB.out g1) (g := w.heap.size + 1 + 1) (u0 := .bool b1) (u1 := .slice a3 n3 c3) (by omega)
      have T5 : Ans ((t1.setCell ⟨w.heap.size + 1 + 1, 0, none⟩ (.bool b1)).setCell ⟨w.heap.size + 1 + 1, 1, none⟩ (.slice a3 n3 c3)) _ (.slice a3 n3 c3) r3 := (A3.off8 hz (by decide)).off8 (box_modify hz (.bool b1)) (by decide)
      obtain ⟨p0, p1⟩ := duo T3
      have HE := hide (And.intro T5 T4)
      have HN := hide (And.intro HN3.out (And.intro v3 q3))
      clear T3 T4 T5 so so2 m0 m1 hf KS g0 g1 HW hz A3 HN3 v3 q3
      generalize (t1.setCell ⟨w.heap.size + 1 + 1, 0, none⟩ (.bool b1)).setCell ⟨w.heap.size + 1 + 1, 1, none⟩ (.slice a3 n3 c3) = w5 at *
      go_wp2
      refine bodyPost_ret (v := .agg #[.bool b1, .slice a3 n3 c3]) (by simp [results, Tryz.results141, go_sem, p0, p1]) rfl ?_
      exact ⟨⟨_, _, _, _, r3, rfl, HN.out.1, ⟨HE.out.1.arg (by have := HLEN.out r3 HN.out.2.2 (by rw [HN.out.2.1]; omega); omega), HN.out.2.2, by rw [HN.out.2.1]⟩⟩, HE.out.2⟩

set_option maxRecDepth 20000 in
set_option maxHeartbeats 1000000 in
theorem yanswered_ok (b : Bool) (a : Option Addr) (c : Nat) (X : List Nat) (z ex : Int) (w : World) (hN : Nm w b (.slice a X.length c) X z) (hT : Tab w) (h1 : -2305843009213693952 ≤ ex) (h2 : ex ≤ 2305843009213693952) (hf : X.length ≤ 35184372088800) :
    Calls Tryz.prog 121 #[.agg #[.bool b, .slice a X.length c, .int .i64 ex], .int .i64 0] w fun e w' => DRes w' w.heap.size e (omz z) (oe z ex) ∧ Below w.heap.size w w' := by
  obtain ⟨w0, hw0, hb0, h0, h1'⟩ := enter2 w (.cells #[.bool b, .slice a X.length c, .int .i64 ex] 153) (.cells #[.bool false, .slice none 0 0, .int .i64 0] 31)
  obtain ⟨k0, k1, k2⟩ := tri8 h0
  have HN := yanswer_any b a c X z ex w0 (hN.below hb0) (hT.below hb0) h1 h2 hf
  have HC := hide h1'
  have HB := hide hb0
  clear h0 h1' hb0 hN hT
  generalize omz z = M at *
  generalize oe z ex = E at *
  go_enter Tryz.func121, Tryz.ntmps121
  go_wp2_with fail
  refine HN.mono ?_
  rintro e t2 ⟨⟨b1, a1, n1, c1, e1, r1, rfl, hdr⟩, g2⟩
  have HC1 := hide (block_upW g2 HC.out)
  have HG := hide (bl_trans8 HB.out g2)
  have HDR := hide (hdr.base HB.out.size)
  have hf1 := tri8f HC1.out
  obtain ⟨m0, m1, m2⟩ := tri8 HC1.out
  clear hdr g2 HN
  go_wp2
  have T3 := tri8_all HC1.out (.bool b1) (.slice a1 n1 c1) (.int .i64 e1)
  have T4 := below_tri8 HG.out (show w.heap.size ≤ w.heap.size + 1 by omega) (.bool b1) (.slice a1 n1 c1) (.int .i64 e1)
  have T5 := HDR.out.tri8 HC1.out (by decide) (.bool b1) (.slice a1 n1 c1) (.int .i64 e1)
  obtain ⟨p0, p1, p2⟩ := tri8 T3
  have HE := hide (And.intro T5 T4)
  clear T3 T4 T5
  generalize ((t2.setCell ⟨w.heap.size + 1, 0, none⟩ (.bool b1)).setCell ⟨w.heap.size + 1, 1, none⟩ (.slice a1 n1 c1)).setCell ⟨w.heap.size + 1, 2, none⟩ (.int .i64 e1) = w5 at *
  refine bodyPost_ret (v := .tuple #[.agg #[.bool b1, .slice a1 n1 c1, .int .i64 e1], .int .i64 r1]) (by simp [results, Tryz.results121, go_sem, p0, p1, p2]) rfl ?_
  exact ⟨⟨_, _, _, _, _, _, rfl, HE.out.1⟩, HE.out.2⟩

set_option maxRecDepth 20000 in
set_option maxHeartbeats 1000000 in
theorem yanswered_no (b : Bool) (a : Option Addr) (n c : Nat) (ex r : Int) (w : World) (hr : r ≠ 0) :
    Calls Tryz.prog 121 #[.agg #[.bool b, .slice a n c, .int .i64 ex], .int .i64 r] w fun e w' => DErr r e ∧ Below w.heap.size w w' := by
  obtain ⟨w0, hw0, hb0, h0, h1'⟩ := enter2 w (.cells #[.bool b, .slice a n c, .int .i64 ex] 153) (.cells #[.bool false, .slice none 0 0, .int .i64 0] 31)
  obtain ⟨k0, k1, k2⟩ := tri8 h0
  have hr1 : ((r : Int) == 0) = false := by rw [beq_eq_false_iff_ne]; exact hr
  have hr2 : ((r : Int) != 0) = true := by rw [bne, hr1]; rfl
  have hf1 := tri8f h1'
  obtain ⟨m0, m1, m2⟩ := tri8 h1'
  have HC1 := hide h1'
  have HG := hide hb0
  clear h0 h1' hb0
  go_enter Tryz.func121, Tryz.ntmps121
  go_wp2
  have T3 := tri8_all HC1.out (.bool false) (.slice none 0 0) (.int .i64 0)
  have T4 := below_tri8 HG.out (show w.heap.size ≤ w.heap.size + 1 by omega) (.bool false) (.slice none 0 0) (.int .i64 0)
  obtain ⟨p0, p1, p2⟩ := tri8 T3
  have HE := hide T4
  clear T3 T4
  generalize ((w0.setCell ⟨w.heap.size + 1, 0, none⟩ (.bool false)).setCell ⟨w.heap.size + 1, 1, none⟩ (.slice none 0 0)).setCell ⟨w.heap.size + 1, 2, none⟩ (.int .i64 0) = w5 at *
  refine bodyPost_ret (v := .tuple #[.agg #[.bool false, .slice none 0 0, .int .i64 0], .int .i64 r]) (by simp [results, Tryz.results121, go_sem, p0, p1, p2]) rfl ?_
  exact ⟨rfl, HE.out⟩

end Go.Proofs.YtppkhhbhnhijpaaGreatDoor
