/- Package nat: From, Times. -/
import Derived.Test.YthpihbofcgeljaaNatD
import Derived.Test.YthpihbofcgeljaaPure5
namespace Go.Proofs.Ythpihbofcgeljaa
open Go.RowKit
open Lm

set_option maxHeartbeats 800000 in
theorem times_any (v1 : Value) (zs : List Nat) (m : Nat) (w : World) (h1 : Arg w v1 zs) (hm : m < 18446744073709551616) (f1 : zs.length ≤ 35184372088831) :
    Calls Try.prog 26 #[v1, .int .u64 m] w fun e w' => Below w.heap.size w w' ∧ Res w' w.heap.size e (val zs * m) := by
  obtain ⟨a1, c1, rfl, hc1, hm1, hl1⟩ := h1.form
  have H1 := trim_any a1 c1 zs w hc1 hm1 hl1
  have l1 := tr_length_le zs
  have L1 := hl1.tr
  have M1 := limbs_tr h1.limbs
  rw [← val_tr zs]
  obtain ⟨i0, hi, hz0, hz1, hz2⟩ := info_parts Try.infoU
  generalize tr zs = Z at *
  go_enter Try.func26, Try.ntmps26
  go_wp2_with fail
  refine H1.mono ?_
  rintro e w' ⟨rfl, rfl⟩
  clear H1
  go_wp2_with (at_make; refine wpList_make_full _ rfl _ _ 23 rfl w'.heap.size 42 i0 (.int .u64 0) 1 Try.underlying23 hi hz0 hz1 .i64 .i64 _ _ (Z.length + 1) rfl rfl (by omega) (by omega) (by rw [hz2]; omega) (by unfold maxLen; omega) (Nat.le_refl _) ?_; intro w1 hown hgrow)
  have hb1 := Blk.made hown
  have hbel : Below w'.heap.size w' w1 := (Below.refl _ _).grown hgrow (Nat.le_refl _) (fun k hk => by cases hk)
  clear hown hgrow hi hz0 hz1 hz2
  go_loopw [7, 21] (fun c i wr => ∃ (k cy : Nat) (out : List Nat), k ≤ Z.length ∧ i = .int .i64 k ∧ c = .int .u64 cy ∧ cy < 18446744073709551616 ∧ out.length = Z.length + 1 ∧ Limbs out ∧ Blk wr w'.heap.size out ∧ Below w'.heap.size w' wr ∧
      val (out.take k) + cy * 18446744073709551616 ^ k = val (Z.take k) * m) (fun _ i _ => Z.length - (intOf i).toNat)
  case atStart => exact ⟨0, 0, _, Nat.zero_le _, rfl, rfl, by omega, by simp, limbs_replicate _, hb1, hbel, by simp [val]⟩
  case round =>
    obtain ⟨k, cy, out, hk, rfl, rfl, hcy, hlen, hlo, hblk, hbl, hval⟩ := hrel
    clear hb1 hbel
    have HV := hide hval
    have HB := hide hblk
    have HL := hide hbl
    clear hval
    by_cases hkl : k < Z.length
    · rcases L1.below hbl with h0 | ⟨b, off, rfl, hcell⟩
      · simp [h0] at hkl
      · have hck := hcell k hkl
        have hbw := Lies.block (L1 : Lies w' (some ⟨b, off, none⟩) Z) (by omega)
        have hne1 : ¬ b = w'.heap.size := by omega
        have hne2 : ¬ w'.heap.size = b := by omega
        have hfr := hblk.free k
        have hco := hblk.cell k (by omega)
        have z1 := limb_lt M1 k
        have hst := times_step Z out m k cy (by omega) HV.out
        have hmh := mul_hi (Z.getD k 0) m cy z1 hm hcy
        have ha := add64_0 (Z.getD k 0 * m % 18446744073709551616) cy
        have hM := Try.bits_Mul64 (Z.getD k 0) m z1 hm wr
        generalize Z.getD k 0 = x at *
        generalize out.getD k 0 = o at *
        rw [hmh.2.2] at ha
        have hs1 : (x * m + cy) % 18446744073709551616 < 18446744073709551616 := Nat.mod_lt _ (by omega)
        have hd1 := hmh.2.1
        have hsum : x * m / 18446744073709551616 + (x * m % 18446744073709551616 + cy) / 18446744073709551616 = (x * m + cy) / 18446744073709551616 := hmh.1
        clear hmh
        generalize (x * m + cy) % 18446744073709551616 = s at *
        generalize (x * m + cy) / 18446744073709551616 = d at *
        generalize (x * m % 18446744073709551616 + cy) / 18446744073709551616 = ov at *
        generalize x * m % 18446744073709551616 = lo at *
        generalize x * m / 18446744073709551616 = hi at *
        have HS := hide hst
        have hsI : (hi : Int) + (ov : Int) = (d : Int) := by omega
        clear hst hcell hblk hbl HV L1 M1 hl1 h1 hsum
        go_wp2_with fail
        refine hM.mono ?_
        rintro e w2 ⟨rfl, rfl⟩
        clear hM
        go_wp2
        go_roundw
        case rel => exact ⟨k + 1, d, out.set k s, by omega, by go_num, rfl, hd1, by simp; omega, limbs_set hlo _ _ hs1, HB.out.set k s, HL.out.setCell (Nat.le_refl _) _, HS.out⟩
        case measure => simp [intOf]; omega
    · have ek : k = Z.length := by omega
      subst ek
      have hfr := hblk.free Z.length
      have hco := hblk.cell Z.length (by omega)
      generalize out.getD Z.length 0 = o at *
      have hb2 := hblk.set Z.length cy
      have HA := answer_blk _ w'.heap.size _ _ hb2 (limbs_set hlo _ _ (by omega)) (Nat.le_refl _) (by simp; omega)
      have hvl : val (out.set Z.length cy) = val Z * m := by
        have e1 : (out.set Z.length cy).take (Z.length + 1) = out.set Z.length cy := List.take_of_length_le (by simp; omega)
        rw [← e1, take_set_succ _ _ _ (by omega), Nat.mul_comm (18446744073709551616 ^ _), HV.out, List.take_length]
      rw [List.length_set, hlen, hvl] at HA
      have HBel := hide (hbl.setCell (p := ⟨w'.heap.size, Z.length, none⟩) (Nat.le_refl _) (.int .u64 cy))
      clear hvl hb2 hblk hbl HV L1 M1 hl1 h1 HB HL hlo
      go_wp2_with fail
      refine HA.mono ?_
      rintro e w2 ⟨rfl, hres⟩
      unfold Res at hres
      obtain ⟨v, c, rs, rfl, hres⟩ := hres
      have HX := hide hres
      clear hres
      go_wp2
      go_ret2
      exact ⟨HBel.out, v, c, rs, rfl, HX.out⟩

/-- A number of one limb, or nought. -/
theorem from_any (x : Nat) (w : World) (hx : x < 18446744073709551616) :
    Calls Try.prog 31 #[.int .u64 x] w fun e w' => (∃ v, e = .returned v ∧ Ans w' w.heap.size v (tr [x])) ∧ Below w.heap.size w w' := by
  by_cases h : x = 0
  · subst h
    have hz : (((0 : Nat) : Int) == 0) = true := rfl
    go_enter Try.func31, Try.ntmps31
    go_wp2
    go_ret
    exact ⟨⟨_, rfl, Ans.nil _ _⟩, Below.refl _ _⟩
  · have hz : ((x : Int) == 0) = false := by rw [beq_eq_false_iff_ne]; omega
    have e : tr [x] = [x] := by simp [tr, h]
    rw [e]
    clear e h
    have hb : Blk (w.alloc (.cells #[.int .u64 (x : Int)] 42)) w.heap.size [x] := by
      unfold Blk; rw [heap_alloc_new]; rfl
    have HA := hide (Ans.of_blk (base := w.heap.size) (zs := [x]) (Nat.le_refl _) hb rfl (Nat.le_refl _) (by simp) (by intro y hy; simp at hy; omega))
    clear hb
    go_enter Try.func31, Try.ntmps31
    go_wp2
    go_ret
    exact ⟨⟨_, rfl, HA.out⟩, (Below.refl _ _).alloc (Nat.le_refl _) _⟩

end Go.Proofs.Ythpihbofcgeljaa
