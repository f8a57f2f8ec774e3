/- Package nat: Through. -/
import Derived.Test.YthpihbofcgeljaaNatI
import Derived.Test.YthpihbofcgeljaaDiv
namespace Go.Proofs.Ythpihbofcgeljaa
open Go.RowKit
open Lm

theorem div64_any (hi lo y : Nat) (w : World) (hy : y < 18446744073709551616) (hhi : hi < y) (hlo : lo < 18446744073709551616) :
    Calls Try.prog 49 #[.int .u64 hi, .int .u64 lo, .int .u64 y] w fun e w' => e = .returned (.tuple #[.int .u64 (((hi * 18446744073709551616 + lo) / y : Nat) : Int), .int .u64 (((hi * 18446744073709551616 + lo) % y : Nat) : Int)]) ∧ Same w w' := by
  by_cases h : hi = 0
  · subst h
    have := div64_zero lo y w hy hhi hlo
    rw [Nat.zero_mul, Nat.zero_add]
    exact this
  · exact div64_big hi lo y w hy (by omega) hhi hlo

theorem through_no (v : Value) (w : World) :
    Calls Try.prog 27 #[v, .int .u64 0] w fun e w' => e = .returned (.tuple #[.slice none 0 0, .int .u64 0, .int .i64 1]) ∧ w' = w := by
  go_enter Try.func27, Try.ntmps27
  go_wp2
  go_ret3
  exact ⟨rfl, rfl⟩

/-- What Through answers. -/
def ResT (w : World) (base : Nat) (e : Ending) (s t : Nat) : Prop :=
  ∃ v c rs r, e = .returned (.tuple #[v, .int .u64 ((r : Nat) : Int), .int .i64 c]) ∧ Ans w base v rs ∧ ((c = 0 ∧ val rs = s ∧ tr rs = rs ∧ r = t ∧ blen s ≤ 67108864) ∨ (c = 3 ∧ rs = [] ∧ r = 0 ∧ 67108864 < blen s))

set_option maxHeartbeats 800000 in
theorem through_any (v1 : Value) (zs : List Nat) (d : Nat) (w : World) (h1 : Arg w v1 zs) (hd : d < 18446744073709551616) (hd0 : 0 < d) (f1 : zs.length ≤ 35184372088831) :
    Calls Try.prog 27 #[v1, .int .u64 d] w fun e w' => Below w.heap.size w w' ∧ ResT w' w.heap.size e (val zs / d) (val zs % d) := by
  obtain ⟨a1, c1, rfl, hc1, hm1, hl1⟩ := h1.form
  have H1 := trim_any a1 c1 zs w hc1 hm1 hl1
  have l1 := tr_length_le zs
  have L1 := hl1.tr
  have M1 := limbs_tr h1.limbs
  have hdz : ((d : Int) == 0) = false := by rw [beq_eq_false_iff_ne]; omega
  rw [← val_tr zs]
  obtain ⟨i0, hi, hz0, hz1, hz2⟩ := info_parts Try.infoU
  generalize tr zs = Z at *
  go_enter Try.func27, Try.ntmps27
  go_wp2_with fail
  refine H1.mono ?_
  rintro e w' ⟨rfl, rfl⟩
  clear H1
  go_wp2_with (at_make; refine wpList_make_full _ rfl _ _ 23 rfl w'.heap.size 42 i0 (.int .u64 0) 1 Try.underlying23 hi hz0 hz1 .i64 .i64 _ _ Z.length rfl rfl (by omega) (by omega) (by rw [hz2]; omega) (by unfold maxLen; omega) (Nat.le_refl _) ?_; intro w1 hown hgrow)
  have hb1 := Blk.made hown
  have hbel : Below w'.heap.size w' w1 := (Below.refl _ _).grown hgrow (Nat.le_refl _) (fun k hk => by cases hk)
  clear hown hgrow hi hz0 hz1 hz2
  go_loopw [8, 22] (fun c i wr => ∃ (k r : Nat) (out : List Nat), k ≤ Z.length ∧ i = .int .i64 k ∧ c = .int .u64 r ∧ r < d ∧ out.length = Z.length ∧ Limbs out ∧ Blk wr w'.heap.size out ∧ Below w'.heap.size w' wr ∧
      val (out.drop (Z.length - k)) * d + r = val (Z.drop (Z.length - k))) (fun _ i _ => Z.length - (intOf i).toNat)
  case atStart => exact ⟨0, 0, _, Nat.zero_le _, rfl, rfl, hd0, by simp, limbs_replicate _, hb1, hbel, by simp [val]⟩
  case round =>
    obtain ⟨k, r, out, hk, rfl, rfl, hr, hlen, hlo, hblk, hbl, hval⟩ := hrel
    clear hb1 hbel
    have HB := hide hblk
    have HL := hide hbl
    by_cases hkl : k < Z.length
    · rcases L1.below hbl with h0 | ⟨b, off, rfl, hcell⟩
      · simp [h0] at hkl
      · have hck := hcell (Z.length - 1 - k) (by omega)
        have hbw := Lies.block (L1 : Lies w' (some ⟨b, off, none⟩) Z) (by omega)
        have hje : (Z.length : Int) - 1 - (k : Int) = ((Z.length - 1 - k : Nat) : Int) := by omega
        have hjl : Z.length - 1 - k < Z.length := by omega
        have ek : Z.length - k = (Z.length - 1 - k) + 1 := by omega
        have ek2 : Z.length - (k + 1) = Z.length - 1 - k := by omega
        rw [ek] at hval
        generalize Z.length - 1 - k = j at *
        have z1 := limb_lt M1 j
        have hst := through_step Z out d j r (by omega) hval hjl
        have EK2 := hide ek2
        have HV := hide hst
        have HD := div64_any r (Z.getD j 0) d wr hd hr z1
        have hql := quo_lt r (Z.getD j 0) d hr z1
        have hrl : (r * 18446744073709551616 + Z.getD j 0) % d < d := Nat.mod_lt _ hd0
        generalize (r * 18446744073709551616 + Z.getD j 0) / d = qq at *
        generalize (r * 18446744073709551616 + Z.getD j 0) % d = rr at *
        generalize Z.getD j 0 = x at *
        have hi1 : (0 : Int) ≤ (j : Int) := by omega
        have hi2 : (j : Int) < (Z.length : Int) := by omega
        clear hst hval hcell hblk hbl L1 M1 hl1 h1 ek ek2
        go_wp2_with fail
        refine HD.mono ?_
        rintro e w2 ⟨rfl, hs⟩
        have HB2 := hide (HB.out.below (hs.below _) (HB.out.lt))
        have HL2 := hide (HL.out.trans (hs.below _))
        have hfr := HB2.out.free j
        have hco := HB2.out.cell j (by omega)
        generalize out.getD j 0 = o at *
        clear HD hs hck
        go_wp2
        go_roundw
        case rel => exact ⟨k + 1, rr, out.set j qq, by omega, by go_num, rfl, hrl, by simp; omega, limbs_set hlo _ _ hql, HB2.out.set j qq, HL2.out.setCell (Nat.le_refl _) _, by rw [EK2.out]; exact HV.out⟩
        case measure => simp [intOf]; omega
    · have ek : k = Z.length := by omega
      subst ek
      rw [Nat.sub_self, List.drop_zero, List.drop_zero] at hval
      have hq : val out = val Z / d := by
        rw [← hval, Nat.mul_comm, Nat.mul_add_div hd0, Nat.div_eq_of_lt hr, Nat.add_zero]
      have hm : r = val Z % d := by
        rw [← hval, Nat.mul_comm, Nat.mul_add_mod, Nat.mod_eq_of_lt hr]
      have HA := answer_blk _ w'.heap.size _ _ hblk hlo (Nat.le_refl _) (by omega)
      rw [hlen, hq] at HA
      have HM := hide hm
      have hrW : r < 18446744073709551616 := by omega
      clear hq hm hval hblk hbl HB hlo L1 M1 hl1 h1
      go_wp2_with fail
      refine HA.mono ?_
      rintro e w2 ⟨rfl, v, c, rs, rfl, hans, hcase⟩
      have HX := hide hans
      rcases hcase with ⟨rfl, h2, h3, h4⟩ | ⟨rfl, h2, h3⟩
      · have HC := hide (And.intro h2 (And.intro h3 h4))
        clear hans h2 h3 h4 HA
        go_wp2
        go_ret3
        exact ⟨HL.out, v, 0, rs, r, rfl, HX.out, .inl ⟨rfl, HC.out.1, HC.out.2.1, HM.out, HC.out.2.2⟩⟩
      · have HC := hide (And.intro h2 h3)
        clear hans h2 h3 HA
        go_wp2
        go_ret3
        exact ⟨HL.out, _, 3, [], 0, rfl, Ans.nil _ _, .inr ⟨rfl, rfl, rfl, HC.out.2⟩⟩

end Go.Proofs.Ythpihbofcgeljaa
