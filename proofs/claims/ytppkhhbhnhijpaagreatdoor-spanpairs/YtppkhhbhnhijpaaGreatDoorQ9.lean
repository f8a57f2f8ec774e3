/- Plain facts: numbers m times 2^e in their normal form. -/
import Derived.Test.YtppkhhbhnhijpaaGreatDoorRefPZ
import Derived.Test.YtppkhhbhnhijpaaGreatDoorQ2
import Derived.Test.YtppkhhbhnhijpaaGreatDoorQA
import Derived.Test.YtppkhhbhnhijpaaGreatDoorQB
import Derived.Deep.RegionHeld3
import Derived.Test.YtppkhhbhnhijpaaGreatDoorQ3
namespace Go.Proofs.YtppkhhbhnhijpaaGreatDoor
open Go.RowKit
open Lm

/-- How many noughts x has at its bottom. -/
noncomputable def tl (x : Nat) : Nat := if h : x = 0 then 0 else Classical.choose (tail_is x h)
/-- x without them. -/
noncomputable def od (x : Nat) : Nat := x / 2 ^ tl x

theorem tl_is {x : Nat} (h : x ≠ 0) : IsTail x (tl x) := by
  unfold tl; rw [dif_neg h]; exact Classical.choose_spec (tail_is x h)

theorem isTail_one {x s t : Nat} (h : IsTail x s) (k : IsTail x t) : s = t := by
  rcases Nat.lt_trichotomy s t with hlt | heq | hgt
  · have := tail_low k hlt; have := h.2; omega
  · exact heq
  · have := tail_low h hgt; have := k.2; omega

theorem tl_of {x t : Nat} (h : IsTail x t) : tl x = t := by
  have hx : x ≠ 0 := by rintro rfl; have := h.2; simp at this
  exact isTail_one (tl_is hx) h

theorem od_form {x : Nat} (h : x ≠ 0) : x = 2 ^ tl x * od x ∧ od x % 2 = 1 := by
  have h1 := tl_is h
  refine ⟨?_, h1.2⟩
  have := Nat.div_add_mod x (2 ^ tl x)
  rw [h1.1] at this
  exact this.symm

theorem od_zero : od 0 = 0 := by unfold od; simp

theorem od_pos {x : Nat} (h : x ≠ 0) : od x ≠ 0 := by have := (od_form h).2; omega

theorem od_le (x : Nat) : od x ≤ x := Nat.div_le_self _ _

theorem tl_shift {x : Nat} (h : x ≠ 0) (k : Nat) : tl (x * 2 ^ k) = tl x + k ∧ od (x * 2 ^ k) = od x := by
  obtain ⟨h1, h2⟩ := od_form h
  obtain ⟨m, hm⟩ : ∃ m, od x = 2 * m + 1 := ⟨od x / 2, by omega⟩
  have e : x * 2 ^ k = 2 ^ (tl x + k) * (2 * m + 1) := by
    rw [← hm, Nat.pow_add]
    conv => lhs; rw [h1]
    rw [Nat.mul_assoc, Nat.mul_assoc, Nat.mul_comm (od x)]
  have ht : tl (x * 2 ^ k) = tl x + k := by
    refine tl_of ?_
    rw [e]; exact isTail_form _ _
  refine ⟨ht, ?_⟩
  have : od (x * 2 ^ k) = x * 2 ^ k / 2 ^ (tl x + k) := by unfold od; rw [ht]
  rw [this, e, Nat.mul_div_cancel_left _ (Nat.two_pow_pos _), hm]

theorem tl_odd {x : Nat} (h : x % 2 = 1) : tl x = 0 ∧ od x = x := by
  have ht : tl x = 0 := tl_of ⟨by simp [Nat.mod_one], by simpa using h⟩
  refine ⟨ht, ?_⟩
  unfold od; rw [ht]; simp

/-- The mantissa as it is normal. -/
noncomputable def omz (z : Int) : Int := zz (decide (z < 0)) (od z.natAbs)
/-- The exponent as it is normal. -/
noncomputable def oe (z e : Int) : Int := if z = 0 then 0 else e + (tl z.natAbs : Int)

theorem omz_abs (z : Int) : (omz z).natAbs = od z.natAbs := zz_abs _ _

theorem omz_zero : omz 0 = 0 := by unfold omz; rw [show (0 : Int).natAbs = 0 from rfl, od_zero]; exact zz_zero _

theorem omz_ne {z : Int} (h : z ≠ 0) : omz z ≠ 0 := by
  intro e
  have h1 := omz_abs z
  rw [e] at h1
  exact od_pos (x := z.natAbs) (by omega) h1.symm

theorem omz_lt (z : Int) : omz z < 0 ↔ z < 0 := by
  by_cases h0 : z = 0
  · subst h0; rw [omz_zero]
  · have hp := od_pos (x := z.natAbs) (by omega)
    unfold omz zz
    by_cases h : z < 0
    · rw [decide_eq_true h, if_pos rfl]; omega
    · rw [decide_eq_false h]; simp only [Bool.false_eq_true, if_false]; omega

theorem omz_form (z : Int) : z = omz z * 2 ^ (tl z.natAbs) := by
  by_cases h0 : z = 0
  · subst h0; rw [omz_zero]; simp
  · have h1 := (od_form (x := z.natAbs) (by omega)).1
    unfold omz
    generalize od z.natAbs = o at *
    have h2 : (z.natAbs : Int) = (o : Int) * 2 ^ (tl z.natAbs) := by
      have := congrArg (fun n : Nat => (n : Int)) h1
      simp only [Int.natCast_mul, Int.natCast_pow] at this
      rw [Int.mul_comm]; exact this
    by_cases h : z < 0
    · have h3 : z = -(z.natAbs : Int) := by omega
      rw [decide_eq_true h]
      show z = -(o : Int) * 2 ^ (tl z.natAbs)
      rw [Int.neg_mul, ← h2]; exact h3
    · have h3 : z = (z.natAbs : Int) := by omega
      rw [decide_eq_false h]
      show z = (o : Int) * 2 ^ (tl z.natAbs)
      rw [← h2]; exact h3

theorem omz_shift (z e : Int) (k : Nat) : omz (z * 2 ^ k) = omz z ∧ oe (z * 2 ^ k) e = oe z (e + k) := by
  by_cases h0 : z = 0
  · subst h0; simp [oe]
  · have hp : (0 : Int) < 2 ^ k := Int.pow_pos (by omega)
    have ha : (z * 2 ^ k).natAbs = z.natAbs * 2 ^ k := by rw [Int.natAbs_mul, Int.natAbs_pow]; rfl
    obtain ⟨h1, h2⟩ := tl_shift (x := z.natAbs) (by omega) k
    have hne : z * 2 ^ k ≠ 0 := Int.mul_ne_zero h0 (by omega)
    have hs : (z * 2 ^ k < 0) ↔ z < 0 := by
      constructor
      · intro h
        refine Int.lt_of_not_ge fun hz => ?_
        have := Int.mul_nonneg hz (Int.le_of_lt hp)
        omega
      · intro h; exact Int.mul_neg_of_neg_of_pos h hp
    unfold omz oe
    rw [ha, h1, h2, if_neg h0, if_neg hne]
    refine ⟨by rw [decide_eq_decide.2 hs], by omega⟩

theorem omz_odd {z : Int} (h : z.natAbs % 2 = 1) (e : Int) : omz z = z ∧ oe z e = e := by
  obtain ⟨h1, h2⟩ := tl_odd h
  unfold omz oe
  rw [h1, h2, zz_self, if_neg (by omega)]
  exact ⟨rfl, by omega⟩

/-- A normal mantissa stays. -/
theorem omz_twice (z e : Int) : omz (omz z) = omz z ∧ oe (omz z) e = if z = 0 then 0 else e := by
  by_cases h0 : z = 0
  · subst h0; rw [omz_zero, omz_zero]; simp [oe]
  · have h1 := (od_form (x := z.natAbs) (by omega)).2
    rw [if_neg h0]
    exact omz_odd (z := omz z) (by rw [omz_abs]; exact h1) e

theorem tl_le (x : Nat) : tl x ≤ blen x := by
  by_cases h : x = 0
  · subst h; simp [tl]
  · have := isTail_lt (n := blen x) (tl_is h) ((blen_le_iff _ _).1 (Nat.le_refl _))
    omega

theorem od_blen {x : Nat} (h : x ≠ 0) : blen x = blen (od x) + tl x := by
  conv => lhs; rw [(od_form h).1, Nat.mul_comm]
  exact blen_shl _ _ (od_pos h)

theorem zz_eq_zero (b : Bool) (x : Nat) : zz b x = 0 ↔ x = 0 := by cases b <;> simp [zz]

theorem omz_zz (b : Bool) (x : Nat) : omz (zz b x) = zz b (od x) := by
  by_cases h : x = 0
  · subst h; rw [od_zero, zz_zero, omz_zero]
  · unfold omz
    rw [zz_abs]
    congr 1
    cases b
    · simp [zz]
    · simp only [zz, if_true, decide_eq_true_eq]; omega

theorem oe_zz (b : Bool) (x : Nat) (e : Int) : oe (zz b x) e = if x = 0 then 0 else e + (tl x : Int) := by
  unfold oe
  rw [zz_abs]
  by_cases h : x = 0
  · rw [if_pos h, if_pos ((zz_eq_zero b x).2 h)]
  · rw [if_neg h, if_neg (fun h' => h ((zz_eq_zero b x).1 h'))]

end Go.Proofs.YtppkhhbhnhijpaaGreatDoor

/- Package dyadic: trim, limb, bitsFrom. -/
namespace Go.Proofs.YtppkhhbhnhijpaaGreatDoor
open Go.RowKit
open Lm
attribute [local go_sem ↓] Go.wp_at_zero Go.wp_at_succ

theorem ytrim_some (b off cap : Nat) (zs : List Nat) (w : World) (hcap : zs.length ≤ cap) (hmax : cap ≤ 9223372036854775807)
    (hc : ∀ k, k < zs.length → w.cell? ⟨b, off + k, none⟩ = some (.int .u64 ((zs.getD k 0 : Nat) : Int))) :
    Calls Tryz.prog 128 #[.slice (some ⟨b, off, none⟩) zs.length cap] w fun e w' => e = .returned (.slice (some ⟨b, off, none⟩) (tr zs).length cap) ∧ w' = w := by
  go_enter Tryz.func128, Tryz.ntmps128
  go_wp2
  go_loop [3] (fun n => ∃ k : Nat, k ≤ zs.length ∧ n = .int .i64 k ∧ tr (zs.take k) = tr zs) (fun n => (intOf n).toNat)
  case atStart => exact ⟨zs.length, Nat.le_refl _, rfl, by rw [List.take_length]⟩
  case round =>
    obtain ⟨k, hk, rfl, ht⟩ := hrel
    have HT : Hid (tr (zs.take k) = tr zs) := ht
    clear ht
    by_cases h0 : k = 0
    · subst h0
      go_wp2
      go_ret
      have e := HT.out
      simp only [List.take_zero, tr] at e
      rw [← e]
      exact ⟨rfl, rfl⟩
    · obtain ⟨j, rfl⟩ : ∃ j, k = j + 1 := ⟨k - 1, by omega⟩
      have hcj := hc j (by omega)
      clear hc
      by_cases hz : zs.getD j 0 = 0
      · have HZ : Hid (tr (zs.take j) = tr zs) := by rw [← tr_step zs j (by omega) hz]; exact HT.out
        rw [hz] at hcj
        clear hz HT
        go_wp2
        go_round
        case rel => exact ⟨j, by omega, by go_num, HZ.out⟩
        case measure => simp [intOf]
      · have HZ : Hid (tr zs = zs.take (j + 1)) := by rw [← HT.out]; exact tr_stop zs j (by omega) hz
        clear HT
        generalize zs.getD j 0 = z at hcj hz
        have hne : ((z : Int) == 0) = false := by rw [beq_eq_false_iff_ne]; omega
        clear hz
        go_wp2
        go_ret
        rw [HZ.out]
        have e : (zs.take (j + 1)).length = j + 1 := by simp; omega
        rw [e]
        exact ⟨rfl, rfl⟩

/-- An empty list: whatever its address. -/
theorem ytrim_none (ao : Option Addr) (cap : Nat) (w : World) (_hmax : cap ≤ 9223372036854775807) :
    Calls Tryz.prog 128 #[.slice ao 0 cap] w fun e w' => e = .returned (.slice ao 0 cap) ∧ w' = w := by
  go_enter Tryz.func128, Tryz.ntmps128
  go_wp2
  refine wp_loop_rounds 1 ?_
  rw [rounds_succ]
  go_wp2
  go_ret
  exact ⟨rfl, rfl⟩

theorem ytrim_any (ao : Option Addr) (cap : Nat) (zs : List Nat) (w : World) (hcap : zs.length ≤ cap) (hmax : cap ≤ 9223372036854775807) (hl : Lies w ao zs) :
    Calls Tryz.prog 128 #[.slice ao zs.length cap] w fun e w' => e = .returned (.slice ao (tr zs).length cap) ∧ w' = w := by
  rcases hl with rfl | ⟨b, off, rfl, hc⟩
  · exact ytrim_none ao cap w hmax
  · exact ytrim_some b off cap zs w hcap hmax hc

theorem Arg.ytrim {w : World} {v : Value} {X : List Nat} (h : Arg w v X) : ∃ a c, v = .slice a X.length c ∧ (∀ w', Below w.heap.size w w' → Calls Tryz.prog 128 #[.slice a X.length c] w' fun e w'' => e = .returned (.slice a (tr X).length c) ∧ w'' = w') ∧ Arg w (.slice a (tr X).length c) (tr X) := by
  obtain ⟨a, c, rfl, hc, hm, hl⟩ := h.form
  exact ⟨a, c, rfl, fun w' hb => ytrim_any a c X w' hc hm (hl.below hb), h.trim⟩

theorem lm_lt {zs : List Nat} (h : Limbs zs) (i : Int) : lm zs i < 18446744073709551616 := by
  unfold lm
  split
  · omega
  · exact limb_lt h _

theorem ylimb_any (ao : Option Addr) (cap : Nat) (zs : List Nat) (i : Int) (w : World) (hcap : zs.length ≤ cap) (_hmax : cap ≤ 9223372036854775807) (hl : Lies w ao zs) :
    Calls Tryz.prog 167 #[.slice ao zs.length cap, .int .i64 i] w fun e w' => e = .returned (.int .u64 ((lm zs i : Nat) : Int)) ∧ w' = w := by
  by_cases h0 : i < 0
  · have e : lm zs i = 0 := by unfold lm; rw [if_pos h0]
    have h1 : ¬ (0 : Int) ≤ i := by omega
    have h2 : decide ((0 : Int) ≤ i) = false := decide_eq_false h1
    rw [e]
    clear hl e
    go_enter Tryz.func167, Tryz.ntmps167
    go_wp2
    go_ret
    exact ⟨rfl, rfl⟩
  · obtain ⟨k, rfl⟩ : ∃ k : Nat, i = (k : Int) := ⟨i.toNat, by omega⟩
    have e : lm zs (k : Int) = zs.getD k 0 := by unfold lm; rw [if_neg h0]; rfl
    rw [e]
    clear e h0
    have h1 : (0 : Int) ≤ (k : Int) := by omega
    by_cases hi : k < zs.length
    · rcases hl with rfl | ⟨b, off, rfl, hc⟩
      · simp at hi
      · have hci := hc k hi
        have h2 : (k : Int) < (zs.length : Int) := by omega
        clear hc
        generalize zs.getD k 0 = z at hci ⊢
        go_enter Tryz.func167, Tryz.ntmps167
        go_wp2
        go_ret
        exact ⟨rfl, rfl⟩
    · have e : zs.getD k 0 = 0 := by simp [List.getD, Nat.le_of_not_lt hi]
      have h2 : ¬ (k : Int) < (zs.length : Int) := by omega
      rw [e]
      clear hl e
      go_enter Tryz.func167, Tryz.ntmps167
      go_wp2
      go_ret
      exact ⟨rfl, rfl⟩

set_option maxRecDepth 20000 in
set_option maxHeartbeats 1000000 in
theorem ybits_any (v : Value) (X : List Nat) (i : Int) (w : World) (hA : Arg w v X) (h1 : -4611686018427387904 ≤ i) (h2 : i ≤ 4611686018427387904) :
    Calls Tryz.prog 153 #[v, .int .i64 i] w fun e w' => e = .returned (.int .u64 ((fl (val X) (-i) % 18446744073709551616 : Nat) : Int)) ∧ Same w w' := by
  obtain ⟨q, hq⟩ : ∃ q : Int, q = i / 64 := ⟨_, rfl⟩
  obtain ⟨r, hr⟩ : ∃ r : Nat, (r : Int) = i % 64 := ⟨(i % 64).toNat, by omega⟩
  have hr64 : r < 64 := by omega
  have hi : i = 64 * q + r := by omega
  rw [← bits_from hA.limbs i q r hr64 hi]
  have e1 : i / 64 = q := hq.symm
  have e1' : i / 2 ^ 6 = q := hq.symm
  have e2 : bits BinOp.and IntKind.i64 i 63 = (r : Int) := by rw [i64_and63, hr]
  have wq : IntKind.i64.wrap q = q := by rw [IntKind.wrap_i64]; omega
  have wq1 : IntKind.i64.wrap (q + 1) = q + 1 := by rw [IntKind.wrap_i64]; omega
  obtain ⟨a, c, rfl, hc, hm, hl⟩ := hA.form
  have z1 := lm_lt hA.limbs q
  have e3 := walk_shr2 (lm X q) (lm X (q + 1)) r hr64 z1
  have e4 := walk_shr (lm X q) r
  have ec : (64 : Int) - (r : Int) = ((64 - r : Nat) : Int) := by omega
  have D1 := fun n => ylimb_any a c X q (w.drewN n) hc hm (hl.below (((Same.refl w).drewN n).below _))
  have D2 := fun n => ylimb_any a c X (q + 1) (w.drewN n) hc hm (hl.below (((Same.refl w).drewN n).below _))
  generalize shr (lm X q) (lm X (q + 1)) r = U at *
  generalize lm X q = x at *
  generalize lm X (q + 1) = y at *
  have hr0 : (0 : Int) ≤ (r : Int) := by omega
  have ht : 64 - r ≤ 64 := by omega
  generalize 64 - r = t at *
  have wt : IntKind.i64.wrap (t : Int) = (t : Int) := by rw [IntKind.wrap_i64]; omega
  rw [e4] at e3
  generalize x / 2 ^ r = x1 at *
  generalize hqq : q + 1 = q1 at *
  clear hq hr hi hl hA
  go_enter Tryz.func153, Tryz.ntmps153
  go_wp2
  go_quiet (first | (go_at_call_of 167 q1; exact (D2 _).mono (fun _ _ h => ⟨h.1, _, h.2⟩)) | (go_at_call 167; exact (D1 _).mono (fun _ _ h => ⟨h.1, _, h.2⟩)))
  go_wp2
  go_ret
  exact ⟨rfl, (Same.refl _).drewN _⟩

end Go.Proofs.YtppkhhbhnhijpaaGreatDoor

/- Package dyadic: shifted. -/
namespace Go.Proofs.YtppkhhbhnhijpaaGreatDoor
open Go.RowKit
open Lm
attribute [local go_sem ↓] Go.wp_at_zero Go.wp_at_succ

/-- A number is answered: normal limbs in new memory. -/
def YDone (w : World) (x : Nat) (e : Ending) (w' : World) : Prop :=
  (∃ a n k rs, e = .returned (.slice a n k) ∧ Ans w' w.heap.size (.slice a n k) rs ∧ n = rs.length ∧ val rs = x ∧ tr rs = rs) ∧ Below w.heap.size w w'

theorem tr_exact {rs : List Nat} (n : Nat) (hl : Limbs rs) (hv : n = blen (val rs)) (hr : rs.length = (n + 63) / 64) : tr rs = rs := by
  have h0 := tr_length_le rs
  have h1 : rs.length ≤ (tr rs).length := by
    have h2 := val_lt (limbs_tr hl)
    rw [val_tr, W_pow] at h2
    have h3 := (blen_le_iff _ _).2 h2
    omega
  have h2 := tr_take rs
  rw [List.take_of_length_le h1] at h2
  exact h2

set_option maxRecDepth 20000 in
set_option maxHeartbeats 1000000 in
theorem yshifted_any (v : Value) (X : List Nat) (n : Int) (w : World) (hA : Arg w v X) (h1 : -2305843009213693952 ≤ n) (h2 : n ≤ 2305843009213693952) (h3 : ((blen (val X) : Nat) : Int) + n ≤ 2251799813685000) (hx0 : val X ≠ 0) :
    Calls Tryz.prog 140 #[v, .int .i64 n] w (YDone w (fl (val X) n)) := by
  have HL := length_val v X w hA
  have hbl := fl_blen (val X) n hx0
  have h64 : blen (val X) ≤ 64 * X.length := by
    rw [blen_le_iff, Nat.mul_comm, ← W_pow]; exact val_lt hA.limbs
  have hfew := hA.few
  obtain ⟨l, hl⟩ : ∃ l : Nat, (l : Int) = max ((blen (val X) : Int) + n) 0 := ⟨(max ((blen (val X) : Int) + n) 0).toNat, by omega⟩
  have hlb : blen (fl (val X) n) = l := by omega
  obtain ⟨m, hm⟩ : ∃ m, m = (l + 63) / 64 := ⟨_, rfl⟩
  have hml : l ≤ 64 * m := by omega
  have hm3 : m ≤ 35184372088831 := by omega
  have w1 : IntKind.i64.wrap ((blen (val X) : Int) + n) = (blen (val X) : Int) + n := by rw [IntKind.wrap_i64]; omega
  have em : max ((blen (val X) : Int) + n) 0 = (l : Int) := hl.symm
  have em2 : max (0 : Int) ((blen (val X) : Int) + n) = (l : Int) := by omega
  have eq1 : (l : Int) + 64 - 1 = ((l + 63 : Nat) : Int) := by omega
  have eq2 : ((l + 63 : Nat) : Int) / 64 = (m : Int) := by omega
  have w2 : IntKind.i64.wrap ((l : Int) + 64) = (l : Int) + 64 := by rw [IntKind.wrap_i64]; omega
  have hlm : l ≤ 2251799813685000 := by omega
  have HM := hide (And.intro hm (And.intro hlb hml))
  have HLim := hide hA.limbs
  have hAA := hide hA
  obtain ⟨i0, hi, hz0, hz1, hz2⟩ := info_parts Tryz.infoU
  obtain ⟨a, c, rfl, hc, hcm, hlies⟩ := hA.form
  generalize hY : fl (val X) n = Y at *
  have HY := hide hY
  have HB := hide (fun (W : World) (hb : Below w.heap.size w W) (k : Nat) (hk : k ≤ m) => ybits_any _ X (64 * (k : Int) - n) W (hAA.out.below hb) (by omega) (by omega))
  generalize blen (val X) = bl at *
  generalize hl63 : l + 63 = l6 at *
  have e63 : (l : Int) + 64 - 1 = (l6 : Int) := eq1
  clear hm hlb hml hl hl63 hbl hlies hA hY eq1 h64
  go_enter Tryz.func140, Tryz.ntmps140
  go_wp2_with fail
  refine HL.mono ?_
  rintro e wn ⟨rfl, hw⟩; rw [hw]; clear hw wn HL
  go_wp2_with (at_make; refine wpList_make_full _ rfl _ _ 27 rfl w.heap.size 108 i0 (.int .u64 0) 1 Tryz.underlying27 hi hz0 hz1 .i64 .i64 _ _ m rfl rfl (by omega) (by omega) (by rw [hz2]; omega) (by unfold maxLen; omega) (Nat.le_refl _) ?_; intro wm hown hgrow)
  have hb1 := Blk.made hown
  have hbel : Below w.heap.size w wm := (Below.refl _ _).grown hgrow (Nat.le_refl _) (fun k hk => by cases hk)
  clear hown hgrow hi hz0 hz1 hz2
  go_loopw [20] (fun i wr => ∃ (k : Nat) (out : List Nat), k ≤ m ∧ i = .int .i64 k ∧ out.length = m ∧ Limbs out ∧ Blk wr w.heap.size out ∧ Below w.heap.size w wr ∧ val (out.take k) = Y % 18446744073709551616 ^ k) (fun i _ => m - (intOf i).toNat)
  case atStart => exact ⟨0, _, Nat.zero_le _, rfl, by simp, limbs_replicate _, hb1, hbel, by simp [val, Nat.mod_one]⟩
  case round =>
    obtain ⟨k, out, hk, rfl, hlen, hlo, hblk, hbl, hval⟩ := hrel
    clear hb1 hbel
    by_cases hkl : k < m
    · have HBT := HB.out wr hbl k (by omega)
      rw [fl_limb, HY.out] at HBT
      have hst := shifted_step Y out k (Y / 2 ^ (64 * k) % 18446744073709551616) (by omega) hval rfl
      have hz : Y / 2 ^ (64 * k) % 18446744073709551616 < 18446744073709551616 := Nat.mod_lt _ (by omega)
      generalize Y / 2 ^ (64 * k) % 18446744073709551616 = z at *
      have wk : IntKind.i64.wrap ((k : Int) * 64) = (k : Int) * 64 := by rw [IntKind.wrap_i64]; omega
      have wk2 : IntKind.i64.wrap ((k : Int) * 64 - n) = 64 * (k : Int) - n := by rw [IntKind.wrap_i64]; omega
      have wk3 : (k : Int) * 64 - n = 64 * (k : Int) - n := by omega
      have HV := hide hst
      have HBK := hide hblk
      have HLO := hide (And.intro hlo hlen)
      have hi1 : (0 : Int) ≤ (k : Int) := by omega
      have hi2 : (k : Int) < (m : Int) := by omega
      clear hst hblk hval hlo
      generalize hI : 64 * (k : Int) - n = I at *
      clear wk3
      have wk3 : (k : Int) * 64 - n = I := by omega
      have HLB := hide hbl
      clear hI hbl
      go_wp2_with fail
      refine HBT.mono ?_
      rintro e w2 ⟨rfl, hs⟩
      have hblk2 : Blk w2 w.heap.size out := HBK.out.below (hs.below (w.heap.size + 1)) (by omega)
      have hfr := hblk2.free k
      have hco := hblk2.cell k (by have := HLO.out.2; omega)
      generalize out.getD k 0 = o at *
      have HB2 := hide hblk2
      have HS := hide (HLB.out.trans ((hs.below wr.heap.size).mono HLB.out.size))
      clear hblk2 hs HBT
      go_wp2
      go_roundw
      case rel => exact ⟨k + 1, out.set k z, by omega, by go_num, by simp; exact HLO.out.2, limbs_set HLO.out.1 _ _ hz, HB2.out.set k z, HS.out.setCell (Nat.le_refl _) _, HV.out⟩
      case measure => simp [intOf]; omega
    · have ek : k = m := by omega
      subst ek
      obtain ⟨hm1, hlb, hml⟩ := HM.out
      have hY2 : val out = Y := by
        rw [List.take_of_length_le (by omega)] at hval
        rw [hval, Nat.mod_eq_of_lt]
        have := (blen_le_iff Y l).1 (by omega)
        rw [W_pow]
        exact Nat.lt_of_lt_of_le this (Nat.pow_le_pow_right (by omega) (by omega))
      have ht : tr out = out := tr_exact l hlo (by rw [hY2]; exact hlb.symm) (by rw [hlen]; omega)
      have HA := Ans.of_blk (base := w.heap.size) (zs := out) (Nat.le_refl _) hblk (by simp) (Nat.le_refl _) (by omega) hlo
      rw [hlen] at HA
      have HR := hide (And.intro HA (And.intro hY2 (And.intro ht (And.intro hbl hlen))))
      clear HA hY2 ht hbl hlen hval hblk hlo hm1 hlb hml
      go_wp2
      go_returns
      exact ⟨⟨_, _, _, out, rfl, HR.out.1, HR.out.2.2.2.2.symm, HR.out.2.1, HR.out.2.2.1⟩, HR.out.2.2.2.1⟩

end Go.Proofs.YtppkhhbhnhijpaaGreatDoor

/- Package dyadic: isPosition, isZero, partOf, seen. -/
namespace Go.Proofs.YtppkhhbhnhijpaaGreatDoor
open Go.RowKit
open Lm
attribute [local go_sem ↓] Go.wp_at_zero Go.wp_at_succ

theorem Ans.off8 {w : World} {base g o : Nat} {v u : Value} {zs : List Nat} {vs : Array Value} {t : TypeId} (h : Ans w base v zs) (hl : w.heap[g]? = some (.cells vs t)) (ht : t ≠ 108) : Ans (w.setCell ⟨g, o, none⟩ u) base v zs := by
  refine ⟨?_, h.limbs⟩
  obtain ⟨h1, h2⟩ := h.own
  refine ⟨h1, ?_⟩
  rcases h2 with h2 | ⟨g', cap, cur, hv, hg, hh, r⟩
  · exact .inl h2
  · refine .inr ⟨g', cap, cur, hv, hg, ?_, r⟩
    rw [Below.heap_setCell _ _ _ _ ?_]
    · exact hh
    · rintro rfl
      rw [hh] at hl
      simp only [Option.some.injEq, Obj.cells.injEq] at hl
      exact ht hl.2.1.symm

theorem tri8_all {w : World} {g : Nat} {a b c : Value} {t : TypeId} (h : w.heap[g]? = some (.cells #[a, b, c] t)) (u0 u1 u2 : Value) : (((w.setCell ⟨g, 0, none⟩ u0).setCell ⟨g, 1, none⟩ u1).setCell ⟨g, 2, none⟩ u2).heap[g]? = some (.cells #[u0, u1, u2] t) :=
  box_modify (box_modify (box_modify h u0) u1) u2

theorem tri8 {w : World} {g : Nat} {a b c : Value} {t : TypeId} (h : w.heap[g]? = some (.cells #[a, b, c] t)) : w.cell? ⟨g, 0, none⟩ = some a ∧ w.cell? ⟨g, 1, none⟩ = some b ∧ w.cell? ⟨g, 2, none⟩ = some c := ⟨by simp [World.cell?, h], by simp [World.cell?, h], by simp [World.cell?, h]⟩

theorem tri8f {w : World} {g : Nat} {a b c : Value} {t : TypeId} (h : w.heap[g]? = some (.cells #[a, b, c] t)) : ∀ k, w.frozen? ⟨g, k, none⟩ = false := fun k => by simp [World.frozen?, h]

theorem Ans.tri8 {w : World} {base g : Nat} {v a0 a1 a2 : Value} {zs : List Nat} {t : TypeId} (h : Ans w base v zs) (hl : w.heap[g]? = some (.cells #[a0, a1, a2] t)) (ht : t ≠ 108) (u0 u1 u2 : Value) : Ans (((w.setCell ⟨g, 0, none⟩ u0).setCell ⟨g, 1, none⟩ u1).setCell ⟨g, 2, none⟩ u2) base v zs :=
  ((h.off8 hl ht).off8 (box_modify hl u0) ht).off8 (box_modify (box_modify hl u0) u1) ht

theorem below_tri8 {B : Nat} {w0 w : World} {g : Nat} (h : Below B w0 w) (hg : B ≤ g) (u0 u1 u2 : Value) : Below B w0 (((w.setCell ⟨g, 0, none⟩ u0).setCell ⟨g, 1, none⟩ u1).setCell ⟨g, 2, none⟩ u2) :=
  ((h.setCell (p := ⟨g, 0, none⟩) hg u0).setCell (p := ⟨g, 1, none⟩) hg u1).setCell (p := ⟨g, 2, none⟩) hg u2

theorem cell_other8 {w : World} {g k g' k' : Nat} {u : Value} (h : g ≠ g') : (w.setCell ⟨g, k, none⟩ u).cell? ⟨g', k', none⟩ = w.cell? ⟨g', k', none⟩ := by
  simp only [World.cell?]; rw [Below.heap_setCell _ _ _ _ (Ne.symm h)]

theorem bl_trans8 {W0 W t : World} (h : Below W0.heap.size W0 W) (h2 : Below W.heap.size W t) : Below W0.heap.size W0 t := h.trans (h2.mono h.size)

/-- Limbs to read that lie in no box of three cells stay, where the box is written. -/
theorem Lies.off8 {w : World} {ao : Option Addr} {zs : List Nat} {g o : Nat} {u : Value} (h : Lies w ao zs) (hg : w.heap.size ≤ g) : Lies (w.setCell ⟨g, o, none⟩ u) ao zs :=
  h.below ((Below.refl _ _).setCell (p := ⟨g, o, none⟩) hg u)

def fitE (n : Int) : Bool := decide (-1099511627776 ≤ n) && decide (n ≤ 1099511627776)

theorem fitE_iff (n : Int) : fitE n = true ↔ -1099511627776 ≤ n ∧ n ≤ 1099511627776 := by simp [fitE]

theorem yisPos_any (n : Int) (w : World) : Calls Tryz.prog 108 #[.int .i64 n] w fun e w' => e = .returned (.bool (fitE n)) ∧ w' = w := by
  by_cases h1 : -1099511627776 ≤ n
  · have h1' : decide (-1099511627776 ≤ n) = true := decide_eq_true h1
    by_cases h2 : n ≤ 1099511627776
    · have h2' : decide (n ≤ 1099511627776) = true := decide_eq_true h2
      rw [(fitE_iff n).2 ⟨h1, h2⟩]
      go_enter Tryz.func108, Tryz.ntmps108
      go_wp2
      go_ret
      exact ⟨rfl, rfl⟩
    · have h2' : decide (n ≤ 1099511627776) = false := decide_eq_false h2
      have e : fitE n = false := by rw [← Bool.not_eq_true, fitE_iff]; omega
      rw [e]
      go_enter Tryz.func108, Tryz.ntmps108
      go_wp2
      go_ret
      exact ⟨rfl, rfl⟩
  · have h1' : decide (-1099511627776 ≤ n) = false := decide_eq_false h1
    have e : fitE n = false := by rw [← Bool.not_eq_true, fitE_iff]; omega
    rw [e]
    go_enter Tryz.func108, Tryz.ntmps108
    go_wp2
    go_ret
    exact ⟨rfl, rfl⟩

theorem yisZero_any (b : Bool) (a : Option Addr) (n c : Nat) (w : World) :
    Calls Tryz.prog 137 #[.agg #[.bool b, .slice a n c]] w fun e w' => e = .returned (.bool (decide (n = 0))) ∧ Below w.heap.size w w' := by
  obtain ⟨w0, hw0, hb0, h0⟩ := enter1 w (.cells #[.bool b, .slice a n c] 150)
  obtain ⟨k0, k1⟩ := duo h0
  have HB := hide hb0
  clear h0 hb0
  by_cases hn : n = 0
  · rw [decide_eq_true hn]
    have h2 : ((n : Int) == 0) = true := by rw [beq_iff_eq]; omega
    clear hn
    go_enter Tryz.func137, Tryz.ntmps137
    go_wp2
    go_ret
    exact ⟨rfl, HB.out⟩
  · rw [decide_eq_false hn]
    have h2 : ((n : Int) == 0) = false := by rw [beq_eq_false_iff_ne]; omega
    go_enter Tryz.func137, Tryz.ntmps137
    go_wp2
    go_ret
    exact ⟨rfl, HB.out⟩

set_option maxRecDepth 20000 in
set_option maxHeartbeats 1000000 in
theorem ypartOf_any (b : Bool) (a : Option Addr) (c : Nat) (X : List Nat) (w : World) (hA : Arg w (.slice a X.length c) X) :
    Calls Tryz.prog 109 #[.agg #[.bool b, .slice a X.length c]] w fun e w' => e = .returned (.agg #[.bool b, .slice a (tr X).length c]) ∧ Below w.heap.size w w' := by
  obtain ⟨w0, hw0, hb0, h0, h1⟩ := enter2 w (.cells #[.bool b, .slice a X.length c] 29) (.cells #[.bool false, .slice none 0 0] 150)
  obtain ⟨a', c', e', T, _⟩ := hA.ytrim
  cases e'
  have gd : Below w.heap.size w w0.drew := hb0.drew
  have g0 : Below w0.drew.heap.size w0.drew w0.drew := Below.refl _ _
  have HT : Calls Tryz.prog 128 #[.slice a X.length c] w0.drew fun e t => e = .returned (.slice a (tr X).length c) ∧ Below w0.drew.heap.size w0.drew t := (T w0.drew gd).mono fun e t h => ⟨h.1, by rw [h.2]; exact Below.refl _ _⟩
  have KS := hide (fun (W : World) (hg : Below w0.drew.heap.size w0.drew W) => show W.cell? ⟨w.heap.size, 0, none⟩ = some (.bool b) ∧ W.cell? ⟨w.heap.size, 1, none⟩ = some (.slice a X.length c) from duo (block_upW hg (show w0.drew.heap[w.heap.size]? = some (.cells #[.bool b, .slice a X.length c] 29) from h0)))
  have so : ∀ (W : World) (k : Nat) (u : Value) (k' : Nat), (W.setCell ⟨w.heap.size + 1, k, none⟩ u).cell? ⟨w.heap.size, k', none⟩ = W.cell? ⟨w.heap.size, k', none⟩ := fun W k u k' => cell_other8 (by omega)
  have H1 := hide (show w0.drew.heap[w.heap.size + 1]? = some (.cells #[.bool false, .slice none 0 0] 150) from h1)
  have HB := hide gd
  clear hA h0 h1 hb0 T gd
  go_enter Tryz.func109, Tryz.ntmps109
  go_wp2
  go_region_held3 (fun w' => w'.cell? ⟨w.heap.size, 0, none⟩ = some (.bool b) ∧ w'.cell? ⟨w.heap.size, 1, none⟩ = some (.slice a X.length c)) (first | with_reducible exact KS.out _ g1 | with_reducible exact KS.out _ g0 | (refine ⟨?_, ?_⟩ <;> (rw [so, so]; first | exact (KS.out _ g1).1 | exact (KS.out _ g1).2))) (first
    | (go_at_call 128; refine HT.mono ?_; rintro e' t1 ⟨rfl, g1⟩; have hz := block_upW g1 H1.out; have hf := duof hz; obtain ⟨m0, m1⟩ := duo hz))
  have T3 := duo_all hz (a' := .bool b) (b' := .slice a (tr X).length c)
  have T4 := below_duo (bl_trans8 HB.out g1) (g := w.heap.size + 1) (u0 := .bool b) (u1 := .slice a (tr X).length c) (by omega)
  obtain ⟨p0, p1⟩ := duo T3
  have HE := hide T4
  clear T3 T4 so m0 m1 hf KS g0 g1 HT hz
  generalize (t1.setCell ⟨w.heap.size + 1, 0, none⟩ (.bool b)).setCell ⟨w.heap.size + 1, 1, none⟩ (.slice a (tr X).length c) = w5 at *
  go_wp2
  refine bodyPost_ret (v := .agg #[.bool b, .slice a (tr X).length c]) (by simp [results, Tryz.results109, go_sem, p0, p1]) rfl ?_
  exact ⟨rfl, HE.out⟩

end Go.Proofs.YtppkhhbhnhijpaaGreatDoor

/- Package dyadic: seen, normal. -/
namespace Go.Proofs.YtppkhhbhnhijpaaGreatDoor
open Go.RowKit
open Lm
attribute [local go_sem ↓] Go.wp_at_zero Go.wp_at_succ

set_option maxRecDepth 20000 in
set_option maxHeartbeats 1000000 in
theorem yseen_ok (b : Bool) (a : Option Addr) (c : Nat) (X : List Nat) (ex : Int) (w : World) (hA : Arg w (.slice a X.length c) X) (hE : fitE ex = true) :
    Calls Tryz.prog 117 #[.agg #[.bool b, .slice a X.length c, .int .i64 ex]] w fun e w' => e = .returned (.tuple #[.agg #[.bool b, .slice a (tr X).length c, .int .i64 ex], .int .i64 0]) ∧ Below w.heap.size w w' := by
  obtain ⟨w0, hw0, hb0, h0, h1⟩ := enter2 w (.cells #[.bool b, .slice a X.length c, .int .i64 ex] 31) (.cells #[.bool false, .slice none 0 0, .int .i64 0] 153)
  obtain ⟨k0, k1, k2⟩ := tri8 h0
  have HP := yisPos_any ex w0
  rw [hE] at HP
  have gd : Below w.heap.size w w0.drew := hb0.drew
  have g0 : Below w0.drew.heap.size w0.drew w0.drew := Below.refl _ _
  have HT := ypartOf_any b a c X w0.drew (hA.below gd)
  have KS := hide (fun (W : World) (hg : Below w0.drew.heap.size w0.drew W) => show W.cell? ⟨w.heap.size, 0, none⟩ = some (.bool b) ∧ W.cell? ⟨w.heap.size, 1, none⟩ = some (.slice a X.length c) ∧ W.cell? ⟨w.heap.size, 2, none⟩ = some (.int .i64 ex) from tri8 (block_upW hg (show w0.drew.heap[w.heap.size]? = some (.cells #[.bool b, .slice a X.length c, .int .i64 ex] 31) from h0)))
  have so : ∀ (W : World) (k : Nat) (u : Value) (k' : Nat), (W.setCell ⟨w.heap.size + 1, k, none⟩ u).cell? ⟨w.heap.size, k', none⟩ = W.cell? ⟨w.heap.size, k', none⟩ := fun W k u k' => cell_other8 (by omega)
  have H1 := hide (show w0.drew.heap[w.heap.size + 1]? = some (.cells #[.bool false, .slice none 0 0, .int .i64 0] 153) from h1)
  have HB := hide gd
  clear hA h0 h1 hb0 gd hE
  go_enter Tryz.func117, Tryz.ntmps117
  go_wp2_with fail
  refine HP.mono ?_
  rintro e wn ⟨rfl, hw⟩; rw [hw]; clear hw wn HP
  go_wp2
  go_region_held3 (fun w' => w'.cell? ⟨w.heap.size, 0, none⟩ = some (.bool b) ∧ w'.cell? ⟨w.heap.size, 1, none⟩ = some (.slice a X.length c) ∧ w'.cell? ⟨w.heap.size, 2, none⟩ = some (.int .i64 ex)) (first | with_reducible exact KS.out _ g1 | with_reducible exact KS.out _ g0 | (refine ⟨?_, ?_, ?_⟩ <;> (rw [so, so, so]; first | exact (KS.out _ g1).1 | exact (KS.out _ g1).2.1 | exact (KS.out _ g1).2.2))) (first
    | (go_at_call 109; refine HT.mono ?_; rintro e' t1 ⟨rfl, g1⟩; have hz := block_upW g1 H1.out; have hf := tri8f hz; obtain ⟨m0, m1, m2⟩ := tri8 hz))
  have T3 := tri8_all hz (.bool b) (.slice a (tr X).length c) (.int .i64 ex)
  have T4 := below_tri8 (bl_trans8 HB.out g1) (show w.heap.size ≤ w.heap.size + 1 by omega) (.bool b) (.slice a (tr X).length c) (.int .i64 ex)
  obtain ⟨p0, p1, p2⟩ := tri8 T3
  have HE := hide T4
  clear T3 T4 so m0 m1 m2 hf KS g0 g1 HT hz k0 k1 k2
  generalize ((t1.setCell ⟨w.heap.size + 1, 0, none⟩ (.bool b)).setCell ⟨w.heap.size + 1, 1, none⟩ (.slice a (tr X).length c)).setCell ⟨w.heap.size + 1, 2, none⟩ (.int .i64 ex) = w5 at *
  go_wp2
  refine bodyPost_ret (v := .tuple #[.agg #[.bool b, .slice a (tr X).length c, .int .i64 ex], .int .i64 0]) (by simp [results, Tryz.results117, go_sem, p0, p1, p2]) rfl ?_
  exact ⟨rfl, HE.out⟩

set_option maxRecDepth 20000 in
set_option maxHeartbeats 1000000 in
theorem yseen_no (b : Bool) (a : Option Addr) (n c : Nat) (ex : Int) (w : World) (hE : fitE ex = false) :
    Calls Tryz.prog 117 #[.agg #[.bool b, .slice a n c, .int .i64 ex]] w fun e w' => e = .returned (.tuple #[.agg #[.bool false, .slice none 0 0, .int .i64 0], .int .i64 80]) ∧ Below w.heap.size w w' := by
  obtain ⟨w0, hw0, hb0, h0, h1⟩ := enter2 w (.cells #[.bool b, .slice a n c, .int .i64 ex] 31) (.cells #[.bool false, .slice none 0 0, .int .i64 0] 153)
  obtain ⟨k0, k1, k2⟩ := tri8 h0
  have HP := yisPos_any ex w0
  rw [hE] at HP
  have hf := tri8f h1
  obtain ⟨m0, m1, m2⟩ := tri8 h1
  have H1 := hide h1
  have HB := hide hb0
  clear h0 h1 hb0 hE
  go_enter Tryz.func117, Tryz.ntmps117
  go_wp2_with fail
  refine HP.mono ?_
  rintro e wn ⟨rfl, hw⟩; rw [hw]; clear hw wn HP
  go_wp2
  have T3 := tri8_all H1.out (.bool false) (.slice none 0 0) (.int .i64 0)
  have T4 := below_tri8 HB.out (show w.heap.size ≤ w.heap.size + 1 by omega) (.bool false) (.slice none 0 0) (.int .i64 0)
  obtain ⟨p0, p1, p2⟩ := tri8 T3
  have HE := hide T4
  clear T3 T4
  generalize ((w0.setCell ⟨w.heap.size + 1, 0, none⟩ (.bool false)).setCell ⟨w.heap.size + 1, 1, none⟩ (.slice none 0 0)).setCell ⟨w.heap.size + 1, 2, none⟩ (.int .i64 0) = w5 at *
  refine bodyPost_ret (v := .tuple #[.agg #[.bool false, .slice none 0 0, .int .i64 0], .int .i64 80]) (by simp [results, Tryz.results117, go_sem, p0, p1, p2]) rfl ?_
  exact ⟨rfl, HE.out⟩

/-- A number that a function of the program hands on: b and limbs without noughts at the top, with what it is worth. -/
structure Nm (w : World) (b : Bool) (v : Value) (X : List Nat) (z : Int) : Prop where
  arg : Arg w v X
  norm : tr X = X
  val : zz b (Lm.val X) = z

theorem Nm.below {w w' : World} {b : Bool} {v : Value} {X : List Nat} {z : Int} (h : Nm w b v X z) (hb : Below w.heap.size w w') : Nm w' b v X z := ⟨h.arg.below hb, h.norm, h.val⟩

set_option maxRecDepth 20000 in
set_option maxHeartbeats 1000000 in
theorem ynormal_zero (b : Bool) (a : Option Addr) (c : Nat) (ex : Int) (w : World) :
    Calls Tryz.prog 129 #[.agg #[.bool b, .slice a 0 c, .int .i64 ex]] w fun e w' => e = .returned (.agg #[.bool false, .slice none 0 0, .int .i64 0]) ∧ Below w.heap.size w w' := by
  obtain ⟨w0, hw0, hb0, h0, h1⟩ := enter2 w (.cells #[.bool b, .slice a 0 c, .int .i64 ex] 153) (.cells #[.bool false, .slice none 0 0, .int .i64 0] 153)
  obtain ⟨k0, k1, k2⟩ := tri8 h0
  have HP := yisZero_any b a 0 c w0
  rw [decide_eq_true rfl] at HP
  have H1 := hide h1
  have HB := hide hb0
  clear h0 h1 hb0
  go_enter Tryz.func129, Tryz.ntmps129
  go_wp2_with fail
  refine HP.mono ?_
  rintro e t1 ⟨rfl, g1⟩
  have hz := block_upW g1 H1.out
  have hf := tri8f hz
  obtain ⟨m0, m1, m2⟩ := tri8 hz
  have HZ := hide hz
  have HG := hide (bl_trans8 HB.out g1)
  clear hz g1 HP k0 k1 k2
  go_wp2
  have T3 := tri8_all HZ.out (.bool false) (.slice none 0 0) (.int .i64 0)
  have T4 := below_tri8 HG.out (show w.heap.size ≤ w.heap.size + 1 by omega) (.bool false) (.slice none 0 0) (.int .i64 0)
  obtain ⟨p0, p1, p2⟩ := tri8 T3
  have HE := hide T4
  clear T3 T4
  generalize ((t1.setCell ⟨w.heap.size + 1, 0, none⟩ (.bool false)).setCell ⟨w.heap.size + 1, 1, none⟩ (.slice none 0 0)).setCell ⟨w.heap.size + 1, 2, none⟩ (.int .i64 0) = w5 at *
  refine bodyPost_ret (v := .agg #[.bool false, .slice none 0 0, .int .i64 0]) (by simp [results, Tryz.results129, go_sem, p0, p1, p2]) rfl ?_
  exact ⟨rfl, HE.out⟩

end Go.Proofs.YtppkhhbhnhijpaaGreatDoor

/- Package dyadic: normal. -/
namespace Go.Proofs.YtppkhhbhnhijpaaGreatDoor
open Go.RowKit
open Lm
attribute [local go_sem ↓] Go.wp_at_zero Go.wp_at_succ

theorem Lies.box8 {w : World} {ao : Option Addr} {zs : List Nat} {g o : Nat} {p : Bool} {a : Option Addr} {n c : Nat} {e : Int} {t : TypeId} {u : Value} (h : Lies w ao zs) (hl : w.heap[g]? = some (.cells #[.bool p, .slice a n c, .int .i64 e] t)) : Lies (w.setCell ⟨g, o, none⟩ u) ao zs := by
  rcases h with h | ⟨b, off, rfl, hc⟩
  · exact .inl h
  · rcases Nat.eq_zero_or_pos zs.length with h0 | h0
    · exact .inl (List.eq_nil_of_length_eq_zero h0)
    · refine .inr ⟨b, off, rfl, fun k hk => ?_⟩
      rw [cell_other8]
      · exact hc k hk
      · rintro rfl
        have h1 := hc 0 h0
        rw [Nat.add_zero] at h1
        simp only [World.cell?, hl] at h1
        match off, h1 with
        | 0, h1 => simp at h1
        | 1, h1 => simp at h1
        | 2, h1 => simp at h1
        | k + 3, h1 => simp at h1

theorem Arg.box8 {w : World} {v : Value} {zs : List Nat} {g o : Nat} {p : Bool} {a : Option Addr} {n c : Nat} {e : Int} {t : TypeId} {u : Value} (h : Arg w v zs) (hl : w.heap[g]? = some (.cells #[.bool p, .slice a n c, .int .i64 e] t)) : Arg (w.setCell ⟨g, o, none⟩ u) v zs := by
  obtain ⟨ao, cap, h1, h2, h3, h4⟩ := h.form
  exact ⟨⟨ao, cap, h1, h2, h3, h4.box8 hl⟩, h.limbs, h.few, h.nz⟩

theorem Arg.tri8 {w : World} {v : Value} {zs : List Nat} {g : Nat} {p : Bool} {a : Option Addr} {n c : Nat} {e : Int} {t : TypeId} (h : Arg w v zs) (hl : w.heap[g]? = some (.cells #[.bool p, .slice a n c, .int .i64 e] t)) (p1 : Bool) (a1 : Option Addr) (n1 c1 : Nat) (u2 : Value) : Arg (((w.setCell ⟨g, 0, none⟩ (.bool p1)).setCell ⟨g, 1, none⟩ (.slice a1 n1 c1)).setCell ⟨g, 2, none⟩ u2) v zs :=
  ((h.box8 hl).box8 (box_modify hl (.bool p1))).box8 (box_modify (box_modify hl (.bool p1)) (.slice a1 n1 c1))

theorem Nm.tri8 {w : World} {b : Bool} {v : Value} {X : List Nat} {z : Int} {g : Nat} {p : Bool} {a : Option Addr} {n c : Nat} {e : Int} {t : TypeId} (h : Nm w b v X z) (hl : w.heap[g]? = some (.cells #[.bool p, .slice a n c, .int .i64 e] t)) (p1 : Bool) (a1 : Option Addr) (n1 c1 : Nat) (u2 : Value) : Nm (((w.setCell ⟨g, 0, none⟩ (.bool p1)).setCell ⟨g, 1, none⟩ (.slice a1 n1 c1)).setCell ⟨g, 2, none⟩ u2) b v X z :=
  ⟨h.arg.tri8 hl p1 a1 n1 c1 u2, h.norm, h.val⟩

/-- A number, normal. -/
def YNorm (w : World) (M E : Int) (e : Ending) (w' : World) : Prop :=
  (∃ b a n k X, e = .returned (.agg #[.bool b, .slice a n k, .int .i64 E]) ∧ n = X.length ∧ Nm w' b (.slice a n k) X M ∧ (X = [] → b = false)) ∧ Below w.heap.size w w'

theorem Nm.zero (w : World) (b : Bool) : Nm w b (.slice none 0 0) [] 0 := ⟨⟨⟨none, 0, rfl, by simp, by simp, .inl rfl⟩, (by intro z hz; cases hz), by simp, fun n c e => by cases e; rfl⟩, rfl, by cases b <;> rfl⟩

theorem Nm.len {w : World} {b : Bool} {v : Value} {X : List Nat} {z : Int} (h : Nm w b v X z) (n : Nat) (hb : blen z.natAbs ≤ n * 64) : X.length ≤ n := by
  refine few_ofW h.norm (x := z.natAbs) ?_ hb
  rw [← h.val, zz_abs]

theorem Nm.abs {w : World} {b : Bool} {v : Value} {X : List Nat} {z : Int} (h : Nm w b v X z) : Lm.val X = z.natAbs := by rw [← h.val, zz_abs]

set_option maxRecDepth 20000 in
set_option maxHeartbeats 1000000 in
theorem ynormal_any (b : Bool) (a : Option Addr) (c : Nat) (X : List Nat) (z ex : Int) (w : World) (hN : Nm w b (.slice a X.length c) X z) (hT : Tab w) (h1 : -2305843009213693952 ≤ ex) (h2 : ex ≤ 2305843009213693952) (hf : X.length ≤ 35184372088800) :
    Calls Tryz.prog 129 #[.agg #[.bool b, .slice a X.length c, .int .i64 ex]] w (YNorm w (omz z) (oe z ex)) := by
  by_cases hx : val X = 0
  · have e0 : X = [] := val_zero hN.norm hx
    subst e0
    have hz : z = 0 := by rw [← hN.val, hx]; exact zz_zero b
    subst hz
    refine (ynormal_zero b a c ex w).mono ?_
    rintro e w' ⟨rfl, hb⟩
    refine ⟨⟨false, none, 0, 0, [], ?_, rfl, ?_, fun _ => rfl⟩, hb⟩
    · simp [oe]
    · rw [omz_zero]; exact Nm.zero _ _
  · have hXl : 0 < X.length := by
      rcases Nat.eq_zero_or_pos X.length with h | h
      · rw [List.eq_nil_of_length_eq_zero h] at hx; exact absurd rfl hx
      · exact h
    obtain ⟨w0, hw0, hb0, h0, h1'⟩ := enter2 w (.cells #[.bool b, .slice a X.length c, .int .i64 ex] 153) (.cells #[.bool false, .slice none 0 0, .int .i64 0] 153)
    obtain ⟨k0, k1, k2⟩ := tri8 h0
    have HP := yisZero_any b a X.length c w0
    rw [decide_eq_false (by omega)] at HP
    have hom : omz z = zz b (od (val X)) := by rw [← hN.val, omz_zz]
    have hoe : oe z ex = ex + (tl (val X) : Int) := by rw [← hN.val, oe_zz, if_neg hx]
    have H0 := hide h0
    have H1 := hide h1'
    have HB := hide hb0
    have HN := hide hN
    have HTB := hide hT
    have HO := hide (And.intro hom hoe)
    have HX := hide hx
    clear h0 h1' hb0 hN hT hom hoe hx
    go_enter Tryz.func129, Tryz.ntmps129
    go_wp2_with fail
    refine HP.mono ?_
    rintro e t1 ⟨rfl, g1⟩
    have G1 := bl_trans8 HB.out g1
    have HT := tail_any _ X t1 (HN.out.arg.below G1) (HTB.out.below G1)
    have c0 := block_upW g1 H0.out
    have c1 := block_upW g1 H1.out
    obtain ⟨k0, k1, k2⟩ := tri8 c0
    have hf0 := tri8f c0
    have hf1 := tri8f c1
    obtain ⟨m0, m1, m2⟩ := tri8 c1
    have HC0 := hide c0
    have HC1 := hide c1
    have HG := hide G1
    clear HP c0 c1 g1 G1 H0 H1 HB
    go_wp2_with fail
    refine HT.mono ?_
    rintro e wn ⟨⟨t, htl, rfl, _, ht⟩, hw⟩; rw [hw]; clear hw wn HT
    have htt := tl_of (ht HX.out)
    have HTT := hide (ht HX.out)
    clear ht
    by_cases ht0 : t = 0
    · subst ht0
      have hod : od (val X) = val X := by unfold od; rw [htt]; simp
      obtain ⟨hom, hoe⟩ := HO.out
      rw [hod] at hom
      rw [htt] at hoe
      have hoe2 : oe z ex = ex := by rw [hoe]; simp
      have HR := hide (And.intro hom hoe2)
      clear hom hoe hoe2 hod htt
      go_wp2
      have T3 := tri8_all HC1.out (.bool b) (.slice a X.length c) (.int .i64 ex)
      have T4 := below_tri8 HG.out (show w.heap.size ≤ w.heap.size + 1 by omega) (.bool b) (.slice a X.length c) (.int .i64 ex)
      obtain ⟨p0, p1, p2⟩ := tri8 T3
      have HE := hide T4
      clear T3 T4
      generalize ((t1.setCell ⟨w.heap.size + 1, 0, none⟩ (.bool b)).setCell ⟨w.heap.size + 1, 1, none⟩ (.slice a X.length c)).setCell ⟨w.heap.size + 1, 2, none⟩ (.int .i64 ex) = w5 at *
      refine bodyPost_ret (v := .agg #[.bool b, .slice a X.length c, .int .i64 ex]) (by simp [results, Tryz.results129, go_sem, p0, p1, p2]) rfl ?_
      refine ⟨⟨b, a, X.length, c, X, by rw [HR.out.2], rfl, ⟨HN.out.arg.below HE.out, HN.out.norm, by rw [HR.out.1]⟩, fun h => ?_⟩, HE.out⟩
      rw [h] at hXl; simp at hXl
    · have i1 : (0 : Int) < (t : Int) := by omega
      have w1 : IntKind.i64.wrap (-(t : Int)) = -(t : Int) := by rw [IntKind.wrap_i64]; omega
      have w2 : IntKind.i64.wrap (ex + (t : Int)) = ex + (t : Int) := by rw [IntKind.wrap_i64]; omega
      have hbx : blen (val X) ≤ 64 * X.length := by rw [blen_le_iff, Nat.mul_comm, ← W_pow]; exact val_lt HN.out.arg.limbs
      have HS := yshifted_any _ X (-(t : Int)) t1 (HN.out.arg.below HG.out) (by omega) (by omega) (by omega) HX.out
      rw [fl_down] at HS
      have hod : od (val X) = val X / 2 ^ t := by unfold od; rw [htt]
      obtain ⟨hom, hoe⟩ := HO.out
      rw [hod] at hom
      rw [htt] at hoe
      have HR := hide (And.intro hom hoe)
      have HOD := hide hod
      clear hom hoe hod htt hbx HO
      generalize hmt : -(t : Int) = mt at *
      have hmt2 : -(t : Int) = mt := hmt
      clear hmt
      generalize hs : ex + (t : Int) = s at *
      have hs2 : ex + (t : Int) = s := hs
      clear hs
      go_wp2_with fail
      refine HS.mono ?_
      rintro e t2 ⟨⟨a2, n2, c2, rs, rfl, A2, hn2, v2, r2⟩, g2⟩
      have c0 := block_upW g2 HC0.out
      have c1 := block_upW g2 HC1.out
      obtain ⟨k0, k1, k2⟩ := tri8 c0
      have hf0 := tri8f c0
      have hf1 := tri8f c1
      obtain ⟨m0, m1, m2⟩ := tri8 c1
      have d0 := box_modify (k := 1) c0 (.slice a2 n2 c2)
      have d1 := box_modify (k := 2) d0 (.int .i64 s)
      have d0' : (t2.setCell ⟨w.heap.size, 1, none⟩ (.slice a2 n2 c2)).heap[w.heap.size]? = some (.cells #[.bool b, .slice a2 n2 c2, .int .i64 ex] 153) := d0
      have d1' : ((t2.setCell ⟨w.heap.size, 1, none⟩ (.slice a2 n2 c2)).setCell ⟨w.heap.size, 2, none⟩ (.int .i64 s)).heap[w.heap.size]? = some (.cells #[.bool b, .slice a2 n2 c2, .int .i64 s] 153) := d1
      have e1 : ((t2.setCell ⟨w.heap.size, 1, none⟩ (.slice a2 n2 c2)).setCell ⟨w.heap.size, 2, none⟩ (.int .i64 s)).heap[w.heap.size + 1]? = some (.cells #[.bool false, .slice none 0 0, .int .i64 0] 153) := by
        rw [Below.heap_setCell _ _ _ _ (by simp), Below.heap_setCell _ _ _ _ (by simp)]; exact c1
      have A3 := (A2.off8 (o := 1) (u := .slice a2 n2 c2) c0 (by decide)).off8 (o := 2) (u := .int .i64 s) d0' (by decide)
      have G3 : Below w.heap.size w ((t2.setCell ⟨w.heap.size, 1, none⟩ (.slice a2 n2 c2)).setCell ⟨w.heap.size, 2, none⟩ (.int .i64 s)) := ((bl_trans8 HG.out g2).setCell (p := ⟨w.heap.size, 1, none⟩) (Nat.le_refl _) _).setCell (p := ⟨w.heap.size, 2, none⟩) (Nat.le_refl _) _
      have HA3 := hide A3
      have HG3 := hide G3
      have HE1 := hide e1
      have hsz := HG.out.size
      have HSZ := hide hsz
      have HV := hide (And.intro hn2 (And.intro v2 r2))
      obtain ⟨q0, q1, q2⟩ := tri8 d1'
      obtain ⟨r0, r1, r2'⟩ := tri8 d0'
      have hfe := tri8f e1
      have hfd := tri8f d0'
      obtain ⟨u0, u1, u2⟩ := tri8 e1
      clear c0 c1 d0 d1 d0' d1' e1 A2 A3 G3 g2 hsz HS hn2 v2 r2
      go_wp2
      have T3 := tri8_all HE1.out (.bool b) (.slice a2 n2 c2) (.int .i64 s)
      have T4 := below_tri8 HG3.out (show w.heap.size ≤ w.heap.size + 1 by omega) (.bool b) (.slice a2 n2 c2) (.int .i64 s)
      have T5 := HA3.out.tri8 HE1.out (by decide) (.bool b) (.slice a2 n2 c2) (.int .i64 s)
      obtain ⟨p0, p1, p2⟩ := tri8 T3
      have HE := hide (And.intro T4 T5)
      clear T3 T4 T5
      generalize ((((t2.setCell ⟨w.heap.size, 1, none⟩ (.slice a2 n2 c2)).setCell ⟨w.heap.size, 2, none⟩ (.int .i64 s)).setCell ⟨w.heap.size + 1, 0, none⟩ (.bool b)).setCell ⟨w.heap.size + 1, 1, none⟩ (.slice a2 n2 c2)).setCell ⟨w.heap.size + 1, 2, none⟩ (.int .i64 s) = w5 at *
      refine bodyPost_ret (v := .agg #[.bool b, .slice a2 n2 c2, .int .i64 s]) (by simp [results, Tryz.results129, go_sem, p0, p1, p2]) rfl ?_
      obtain ⟨hn2, v2, r2⟩ := HV.out
      have hrl : rs.length ≤ 1125899906842624 := by
        have hle := od_le (val X)
        rw [HOD.out, ← v2] at hle
        have h5 := blen_mono hle
        have h6 : blen (val X) ≤ 64 * X.length := by rw [blen_le_iff, Nat.mul_comm, ← W_pow]; exact val_lt HN.out.arg.limbs
        have := few_ofW r2 rfl (n := X.length) (by omega)
        omega
      refine ⟨⟨b, a2, n2, c2, rs, by rw [HR.out.2], hn2, ⟨HE.out.2.arg hrl, r2, by rw [HR.out.1, v2]⟩, fun h => ?_⟩, HE.out.1⟩
      exfalso
      rw [h] at v2
      have h7 := od_pos HX.out
      rw [HOD.out, ← v2] at h7
      exact h7 rfl

end Go.Proofs.YtppkhhbhnhijpaaGreatDoor

/- Package dyadic: answer. -/
namespace Go.Proofs.YtppkhhbhnhijpaaGreatDoor
open Go.RowKit
open Lm
attribute [local go_sem ↓] Go.wp_at_zero Go.wp_at_succ

/-- A dyadic M times 2^E (normal) that was answered, or refused. -/
def DR (w : World) (base : Nat) (b : Bool) (va : Value) (ex c M E : Int) : Prop :=
  ∃ rs, Ans w base va rs ∧ ((c = 0 ∧ b = decide (M < 0) ∧ val rs = M.natAbs ∧ tr rs = rs ∧ ex = E ∧ blen M.natAbs ≤ 67108864 ∧ fitE E = true) ∨
    (c = 3 ∧ b = false ∧ va = .slice none 0 0 ∧ ex = 0 ∧ rs = [] ∧ 67108864 < blen M.natAbs) ∨
    (c = 80 ∧ b = false ∧ va = .slice none 0 0 ∧ ex = 0 ∧ rs = [] ∧ blen M.natAbs ≤ 67108864 ∧ fitE E = false))

def DRes (w : World) (base : Nat) (e : Ending) (M E : Int) : Prop := ∃ b a n k ex c, e = .returned (.tuple #[.agg #[.bool b, .slice a n k, .int .i64 ex], .int .i64 c]) ∧ DR w base b (.slice a n k) ex c M E

theorem DR.below {w w' : World} {base : Nat} {b : Bool} {va : Value} {ex c M E : Int} (h : DR w base b va ex c M E) (hb : Below w.heap.size w w') : DR w' base b va ex c M E := by
  obtain ⟨rs, h1, h2⟩ := h
  exact ⟨rs, h1.below hb, h2⟩

theorem DR.base {w : World} {base base' : Nat} {b : Bool} {va : Value} {ex c M E : Int} (h : DR w base b va ex c M E) (hb : base' ≤ base) : DR w base' b va ex c M E := by
  obtain ⟨rs, h1, h2⟩ := h
  exact ⟨rs, h1.base hb, h2⟩

theorem DR.tri8 {w : World} {base g : Nat} {b : Bool} {va a0 a1 a2 : Value} {ex c M E : Int} {t : TypeId} (h : DR w base b va ex c M E) (hl : w.heap[g]? = some (.cells #[a0, a1, a2] t)) (ht : t ≠ 108) (u0 u1 u2 : Value) : DR (((w.setCell ⟨g, 0, none⟩ u0).setCell ⟨g, 1, none⟩ u1).setCell ⟨g, 2, none⟩ u2) base b va ex c M E := by
  obtain ⟨rs, h1, h2⟩ := h
  exact ⟨rs, h1.tri8 hl ht u0 u1 u2, h2⟩

theorem DR.alloc8 {w : World} {base : Nat} {b : Bool} {va : Value} {ex c M E : Int} (h : DR w base b va ex c M E) (o : Obj) : DR (w.alloc o) base b va ex c M E := h.below (below_one6 _ _)

theorem oe_range (z ex : Int) (h : blen z.natAbs ≤ 2251799813685248) : oe z ex = 0 ∨ (ex ≤ oe z ex ∧ oe z ex ≤ ex + 2251799813685248) := by
  unfold oe
  split
  · exact .inl rfl
  · have := tl_le z.natAbs
    exact .inr (by omega)

set_option maxRecDepth 20000 in
set_option maxHeartbeats 2000000 in
theorem yanswer_any (b : Bool) (a : Option Addr) (c : Nat) (X : List Nat) (z ex : Int) (w : World) (hN : Nm w b (.slice a X.length c) X z) (hT : Tab w) (h1 : -2305843009213693952 ≤ ex) (h2 : ex ≤ 2305843009213693952) (hf : X.length ≤ 35184372088800) :
    Calls Tryz.prog 110 #[.agg #[.bool b, .slice a X.length c, .int .i64 ex]] w fun e w' => DRes w' w.heap.size e (omz z) (oe z ex) ∧ Below w.heap.size w w' := by
  obtain ⟨w0, hw0, hb0, h0, h1'⟩ := enter2 w (.cells #[.bool b, .slice a X.length c, .int .i64 ex] 153) (.cells #[.bool false, .slice none 0 0, .int .i64 0] 31)
  obtain ⟨k0, k1, k2⟩ := tri8 h0
  have HN := ynormal_any b a c X z ex w0 (hN.below hb0) (hT.below hb0) h1 h2 hf
  have hbz : blen z.natAbs ≤ 64 * X.length := by
    rw [← hN.abs, blen_le_iff, Nat.mul_comm, ← W_pow]; exact val_lt hN.arg.limbs
  have HOE := hide (oe_range z ex (by omega))
  have H0 := hide h0
  have H1 := hide h1'
  have HB := hide hb0
  clear h0 h1' hb0 hN hT hbz
  generalize omz z = M at *
  generalize oe z ex = E at *
  go_enter Tryz.func110, Tryz.ntmps110
  go_wp2_with fail
  refine HN.mono ?_
  rintro e t1 ⟨⟨b1, a1, n1, c1, X1, rfl, rfl, N1, hb1⟩, g1⟩
  have c0 := block_upW g1 H0.out
  have c1' := block_upW g1 H1.out
  have hf0 := tri8f c0
  obtain ⟨k0, k1, k2⟩ := tri8 c0
  have d0 := tri8_all c0 (.bool b1) (.slice a1 X1.length c1) (.int .i64 E)
  have G1 : Below w.heap.size w (((t1.setCell ⟨w.heap.size, 0, none⟩ (.bool b1)).setCell ⟨w.heap.size, 1, none⟩ (.slice a1 X1.length c1)).setCell ⟨w.heap.size, 2, none⟩ (.int .i64 E)) := below_tri8 (bl_trans8 HB.out g1) (Nat.le_refl _) _ _ _
  have d1 : (((t1.setCell ⟨w.heap.size, 0, none⟩ (.bool b1)).setCell ⟨w.heap.size, 1, none⟩ (.slice a1 X1.length c1)).setCell ⟨w.heap.size, 2, none⟩ (.int .i64 E)).heap[w.heap.size + 1]? = some (.cells #[.bool false, .slice none 0 0, .int .i64 0] 31) := by
    rw [Below.heap_setCell _ _ _ _ (by simp), Below.heap_setCell _ _ _ _ (by simp), Below.heap_setCell _ _ _ _ (by simp)]; exact c1'
  have NA := N1.tri8 c0 b1 a1 X1.length c1 (.int .i64 E)
  have hzz := N1.val
  have HM := wmake_norm b1 _ X1 _ NA.arg NA.norm
  rw [hzz] at HM
  have hfd := tri8f d0
  obtain ⟨q0, q1, q2⟩ := tri8 d0
  have HD0 := hide d0
  have HD1 := hide d1
  have HG1 := hide G1
  clear c0 c1' d0 d1 G1 NA N1 hb1 g1 HN hzz H0 H1 HB
  go_wp2_with fail
  generalize ((t1.setCell ⟨w.heap.size, 0, none⟩ (.bool b1)).setCell ⟨w.heap.size, 1, none⟩ (.slice a1 X1.length c1)).setCell ⟨w.heap.size, 2, none⟩ (.int .i64 E) = t2 at *
  refine HM.mono ?_
  rintro e t3 ⟨⟨b3, a3, n3, c3, r3, rfl, hzr⟩, g3⟩
  have G3 := bl_trans8 HG1.out g3
  obtain ⟨w4, hw4, hb4, h4⟩ := enter1 t3 (.cells #[.bool b3, .slice a3 n3 c3] 29)
  have G4 := bl_trans8 G3 hb4
  have c0 := block_upW hb4 (block_upW g3 HD0.out)
  have c1 := block_upW hb4 (block_upW g3 HD1.out)
  have hfe := tri8f c1
  obtain ⟨k0, k1, k2⟩ := tri8 c0
  obtain ⟨m0, m1, m2⟩ := tri8 c1
  obtain ⟨l0, l1⟩ := duo h4
  have HP := yisPos_any E w4
  have HC1 := hide c1
  have HG := hide G4
  have hsz := HG1.out.size
  have ZR4 := (hzr.below hb4).base hsz
  clear c0 c1 g3 G3 G4 h4 hb4 HM hzr hsz
  obtain ⟨rs, hans, hcase⟩ := ZR4
  rcases hcase with ⟨rfl, hb3, hv3, ht3, hbl3⟩ | ⟨rfl, hb3, hv3, hr3, hbl3⟩
  · by_cases hfit : fitE E = true
    · rw [hfit] at HP
      have DRX : DR w4 w.heap.size b3 (.slice a3 n3 c3) E 0 M E := ⟨rs, hans, .inl ⟨rfl, hb3, hv3, ht3, rfl, hbl3, hfit⟩⟩
      have HDR := hide DRX
      clear DRX hans hb3 hv3 ht3 hbl3 hfit
      go_wp2_with fail
      refine HP.mono ?_
      rintro e wn ⟨rfl, hw⟩; rw [hw]; clear hw wn HP
      go_wp2
      have T3 := tri8_all HC1.out (.bool b3) (.slice a3 n3 c3) (.int .i64 E)
      have T4 := below_tri8 HG.out (show w.heap.size ≤ w.heap.size + 1 by omega) (.bool b3) (.slice a3 n3 c3) (.int .i64 E)
      have T5 := HDR.out.tri8 HC1.out (by decide) (.bool b3) (.slice a3 n3 c3) (.int .i64 E)
      obtain ⟨p0, p1, p2⟩ := tri8 T3
      have HE := hide (And.intro T5 T4)
      clear T3 T4 T5
      generalize ((w4.setCell ⟨w.heap.size + 1, 0, none⟩ (.bool b3)).setCell ⟨w.heap.size + 1, 1, none⟩ (.slice a3 n3 c3)).setCell ⟨w.heap.size + 1, 2, none⟩ (.int .i64 E) = w5 at *
      refine bodyPost_ret (v := .tuple #[.agg #[.bool b3, .slice a3 n3 c3, .int .i64 E], .int .i64 0]) (by simp [results, Tryz.results110, go_sem, p0, p1, p2]) rfl ?_
      exact ⟨⟨_, _, _, _, _, _, rfl, HE.out.1⟩, HE.out.2⟩
    · have hfit2 : fitE E = false := by simpa using hfit
      rw [hfit2] at HP
      have DRX : DR w4 w.heap.size false (.slice none 0 0) 0 80 M E := ⟨[], Ans.nil _ _, .inr (.inr ⟨rfl, rfl, rfl, rfl, rfl, hbl3, hfit2⟩)⟩
      have HDR := hide DRX
      clear DRX hans hb3 hv3 ht3 hbl3 hfit hfit2
      go_wp2_with fail
      refine HP.mono ?_
      rintro e wn ⟨rfl, hw⟩; rw [hw]; clear hw wn HP
      go_wp2
      have T3 := tri8_all HC1.out (.bool false) (.slice none 0 0) (.int .i64 0)
      have T4 := below_tri8 HG.out (show w.heap.size ≤ w.heap.size + 1 by omega) (.bool false) (.slice none 0 0) (.int .i64 0)
      have T5 := HDR.out.tri8 HC1.out (by decide) (.bool false) (.slice none 0 0) (.int .i64 0)
      obtain ⟨p0, p1, p2⟩ := tri8 T3
      have HE := hide (And.intro T5 T4)
      clear T3 T4 T5
      generalize ((w4.setCell ⟨w.heap.size + 1, 0, none⟩ (.bool false)).setCell ⟨w.heap.size + 1, 1, none⟩ (.slice none 0 0)).setCell ⟨w.heap.size + 1, 2, none⟩ (.int .i64 0) = w5 at *
      refine bodyPost_ret (v := .tuple #[.agg #[.bool false, .slice none 0 0, .int .i64 0], .int .i64 80]) (by simp [results, Tryz.results110, go_sem, p0, p1, p2]) rfl ?_
      exact ⟨⟨_, _, _, _, _, _, rfl, HE.out.1⟩, HE.out.2⟩
  · have DRX : DR w4 w.heap.size false (.slice none 0 0) 0 3 M E := ⟨[], Ans.nil _ _, .inr (.inl ⟨rfl, rfl, rfl, rfl, rfl, hbl3⟩)⟩
    have HDR := hide DRX
    clear DRX hans hb3 hv3 hr3 hbl3 HP
    go_wp2
    have T3 := tri8_all HC1.out (.bool false) (.slice none 0 0) (.int .i64 0)
    have T4 := below_tri8 HG.out (show w.heap.size ≤ w.heap.size + 1 by omega) (.bool false) (.slice none 0 0) (.int .i64 0)
    have T5 := HDR.out.tri8 HC1.out (by decide) (.bool false) (.slice none 0 0) (.int .i64 0)
    obtain ⟨p0, p1, p2⟩ := tri8 T3
    have HE := hide (And.intro T5 T4)
    clear T3 T4 T5
    generalize ((w4.setCell ⟨w.heap.size + 1, 0, none⟩ (.bool false)).setCell ⟨w.heap.size + 1, 1, none⟩ (.slice none 0 0)).setCell ⟨w.heap.size + 1, 2, none⟩ (.int .i64 0) = w5 at *
    refine bodyPost_ret (v := .tuple #[.agg #[.bool false, .slice none 0 0, .int .i64 0], .int .i64 3]) (by simp [results, Tryz.results110, go_sem, p0, p1, p2]) rfl ?_
    exact ⟨⟨_, _, _, _, _, _, rfl, HE.out.1⟩, HE.out.2⟩

end Go.Proofs.YtppkhhbhnhijpaaGreatDoor

/- Package dyadic: Make, Scale. -/
namespace Go.Proofs.YtppkhhbhnhijpaaGreatDoor
open Go.RowKit
open Lm
attribute [local go_sem ↓] Go.wp_at_zero Go.wp_at_succ

/-- A call that is refused with c. -/
def DErr (c : Int) (e : Ending) : Prop := e = .returned (.tuple #[.agg #[.bool false, .slice none 0 0, .int .i64 0], .int .i64 c])

set_option maxRecDepth 20000 in
set_option maxHeartbeats 1000000 in
theorem ymake_no (b : Bool) (a : Option Addr) (n c : Nat) (ex : Int) (w : World) (hE : fitE ex = false) :
    Calls Tryz.prog 85 #[.agg #[.bool b, .slice a n c], .int .i64 ex] w fun e w' => DErr 1 e ∧ Below w.heap.size w w' := by
  obtain ⟨w0, hw0, hb0, h0, h1'⟩ := enter2 w (.cells #[.bool b, .slice a n c] 29) (.cells #[.bool false, .slice none 0 0, .int .i64 0] 31)
  have hf1 := tri8f h1'
  obtain ⟨m0, m1, m2⟩ := tri8 h1'
  have HP := yisPos_any ex w0
  rw [hE] at HP
  have HC1 := hide h1'
  have HG := hide hb0
  clear h0 h1' hb0 hE
  go_enter Tryz.func85, Tryz.ntmps85
  go_wp2_with fail
  refine HP.mono ?_
  rintro e wn ⟨rfl, hw⟩; rw [hw]; clear hw wn HP
  go_wp2
  have T3 := tri8_all HC1.out (.bool false) (.slice none 0 0) (.int .i64 0)
  have T4 := below_tri8 HG.out (show w.heap.size ≤ w.heap.size + 1 by omega) (.bool false) (.slice none 0 0) (.int .i64 0)
  obtain ⟨p0, p1, p2⟩ := tri8 T3
  have HE := hide T4
  clear T3 T4
  generalize ((w0.setCell ⟨w.heap.size + 1, 0, none⟩ (.bool false)).setCell ⟨w.heap.size + 1, 1, none⟩ (.slice none 0 0)).setCell ⟨w.heap.size + 1, 2, none⟩ (.int .i64 0) = w5 at *
  refine bodyPost_ret (v := .tuple #[.agg #[.bool false, .slice none 0 0, .int .i64 0], .int .i64 1]) (by simp [results, Tryz.results85, go_sem, p0, p1, p2]) rfl ?_
  exact ⟨rfl, HE.out⟩

set_option maxRecDepth 20000 in
set_option maxHeartbeats 1000000 in
theorem ymake_ok (b : Bool) (a : Option Addr) (c : Nat) (X : List Nat) (ex : Int) (w : World) (hA : Arg w (.slice a X.length c) X) (hT : Tab w) (hf : X.length ≤ 17592186044416) (hE : fitE ex = true) :
    Calls Tryz.prog 85 #[.agg #[.bool b, .slice a X.length c], .int .i64 ex] w fun e w' => DRes w' w.heap.size e (omz (zz b (val X))) (oe (zz b (val X)) ex) ∧ Below w.heap.size w w' := by
  obtain ⟨w0, hw0, hb0, h0, h1'⟩ := enter2 w (.cells #[.bool b, .slice a X.length c] 29) (.cells #[.bool false, .slice none 0 0, .int .i64 0] 31)
  obtain ⟨k0, k1⟩ := duo h0
  have HP := yisPos_any ex w0
  rw [hE] at HP
  have HO := ypartOf_any b a c X w0 (hA.below hb0)
  have hAT : Arg w (.slice a (tr X).length c) (tr X) := hA.trim
  have hEr := (fitE_iff ex).1 hE
  have HN := hide (fun (W : World) (hg : Below w.heap.size w W) => yanswer_any b a c (tr X) (zz b (val X)) ex W ⟨hAT.below hg, tr_tr X, by rw [val_tr]⟩ (hT.below hg) (by omega) (by omega) (by have := tr_length_le X; omega))
  have HC := hide h1'
  have HB := hide hb0
  clear h0 h1' hb0 hE hA hT hAT
  generalize omz (zz b (val X)) = M at *
  generalize oe (zz b (val X)) ex = E at *
  go_enter Tryz.func85, Tryz.ntmps85
  go_wp2_with fail
  refine HP.mono ?_
  rintro e wn ⟨rfl, hw⟩; rw [hw]; clear hw wn HP
  go_wp2_with fail
  refine HO.mono ?_
  rintro e t1 ⟨rfl, g1⟩
  have G1 := bl_trans8 HB.out g1
  have HA := HN.out t1 G1
  have HG1 := hide G1
  have HC0 := hide (block_upW g1 HC.out)
  clear HO g1 G1 HN HC HB k0 k1
  go_wp2_with fail
  refine HA.mono ?_
  rintro e t2 ⟨⟨b1, a1, n1, c1, e1, r1, rfl, hdr⟩, g2⟩
  have HC1 := hide (block_upW g2 HC0.out)
  have HG := hide (bl_trans8 HG1.out g2)
  have HDR := hide (hdr.base HG1.out.size)
  have hf1 := tri8f HC1.out
  obtain ⟨m0, m1, m2⟩ := tri8 HC1.out
  clear hdr g2 HA HC0
  go_wp2
  have T3 := tri8_all HC1.out (.bool b1) (.slice a1 n1 c1) (.int .i64 e1)
  have T4 := below_tri8 HG.out (show w.heap.size ≤ w.heap.size + 1 by omega) (.bool b1) (.slice a1 n1 c1) (.int .i64 e1)
  have T5 := HDR.out.tri8 HC1.out (by decide) (.bool b1) (.slice a1 n1 c1) (.int .i64 e1)
  obtain ⟨p0, p1, p2⟩ := tri8 T3
  have HE := hide (And.intro T5 T4)
  clear T3 T4 T5
  generalize ((t2.setCell ⟨w.heap.size + 1, 0, none⟩ (.bool b1)).setCell ⟨w.heap.size + 1, 1, none⟩ (.slice a1 n1 c1)).setCell ⟨w.heap.size + 1, 2, none⟩ (.int .i64 e1) = w5 at *
  refine bodyPost_ret (v := .tuple #[.agg #[.bool b1, .slice a1 n1 c1, .int .i64 e1], .int .i64 r1]) (by simp [results, Tryz.results85, go_sem, p0, p1, p2]) rfl ?_
  exact ⟨⟨_, _, _, _, _, _, rfl, HE.out.1⟩, HE.out.2⟩

end Go.Proofs.YtppkhhbhnhijpaaGreatDoor

/- The document's dyadics: Of, Int, Is. -/
namespace Go.Proofs.YtppkhhbhnhijpaaGreatDoor
open Go.RowKit
open Lm
attribute [local go_sem ↓] Go.wp_at_zero Go.wp_at_succ

/-- The document's dyadic M times 2^E. -/
def Dn (w : World) (b : Bool) (v : Value) (M : Int) : Prop := b = decide (M < 0) ∧ Num w v M.natAbs

def DnDone (w : World) (M E : Int) (e : Ending) (w' : World) : Prop := (∃ b a n k, e = .returned (.agg #[.bool b, .slice a n k, .int .i64 E]) ∧ Dn w' b (.slice a n k) M) ∧ Below w.heap.size w w'

theorem Dn.below {w w' : World} {b : Bool} {v : Value} {M : Int} (h : Dn w b v M) (hb : Below w.heap.size w w') : Dn w' b v M := ⟨h.1, h.2.below hb⟩

theorem Num.tri8 {w : World} {v : Value} {x : Nat} {g : Nat} {p : Bool} {a : Option Addr} {n c : Nat} {e : Int} {t : TypeId} (h : Num w v x) (hl : w.heap[g]? = some (.cells #[.bool p, .slice a n c, .int .i64 e] t)) (p1 : Bool) (a1 : Option Addr) (n1 c1 : Nat) (u2 : Value) : Num (((w.setCell ⟨g, 0, none⟩ (.bool p1)).setCell ⟨g, 1, none⟩ (.slice a1 n1 c1)).setCell ⟨g, 2, none⟩ u2) v x := by
  obtain ⟨ds, h1, h2⟩ := h
  exact ⟨ds, h1.tri8 hl p1 a1 n1 c1 u2, h2⟩

theorem Dn.tri8 {w : World} {b : Bool} {v : Value} {M : Int} {g : Nat} {p : Bool} {a : Option Addr} {n c : Nat} {e : Int} {t : TypeId} (h : Dn w b v M) (hl : w.heap[g]? = some (.cells #[.bool p, .slice a n c, .int .i64 e] t)) (p1 : Bool) (a1 : Option Addr) (n1 c1 : Nat) (u2 : Value) : Dn (((w.setCell ⟨g, 0, none⟩ (.bool p1)).setCell ⟨g, 1, none⟩ (.slice a1 n1 c1)).setCell ⟨g, 2, none⟩ u2) b v M :=
  ⟨h.1, h.2.tri8 hl p1 a1 n1 c1 u2⟩

theorem Num.nil8 (w : World) : Num w (.slice none 0 0) 0 := ⟨[], ⟨⟨none, 0, rfl, by simp, by simp, .inl rfl⟩, (by intro z hz; cases hz), by simp, fun n c e => by cases e; rfl⟩, (by intro z hz; cases hz), rfl, rfl, by simp⟩

set_option maxRecDepth 20000 in
set_option maxHeartbeats 1000000 in
theorem rdOf_any (b : Bool) (a : Option Addr) (n c : Nat) (z ex : Int) (w : World) (hZ : Zn w (.agg #[.bool b, .slice a n c]) z) (hbl : blen z.natAbs ≤ 1125899906840000) (h1 : -4611686018427387904 ≤ ex) (h2 : ex ≤ 4611686018427387904) :
    Calls Tryz.prog 48 #[.agg #[.bool b, .slice a n c], .int .i64 ex] w (DnDone w (omz z) (oe z ex)) := by
  obtain ⟨w0, hw0, hb0, h0, h1'⟩ := enter2 w (.cells #[.bool b, .slice a n c] 43) (.cells #[.bool false, .slice none 0 0, .int .i64 0] 45)
  obtain ⟨k0, k1⟩ := duo h0
  have HS := rzsign_any _ z w0 (hZ.below hb0)
  have H0 := hide h0
  have H1 := hide h1'
  have HB := hide hb0
  obtain ⟨u, e1, hnum⟩ := hZ
  have e2 : b = decide (z < 0) ∧ .slice a n c = u := by
    have := congrArg Value.cells e1
    simp [Value.cells] at this
    exact this
  obtain ⟨hbz, rfl⟩ := e2
  have HNU := hide hnum
  clear h0 h1' hb0 e1 hnum
  by_cases hz : z = 0
  · subst hz
    have hom : omz 0 = 0 := omz_zero
    have hoe : oe 0 ex = 0 := by simp [oe]
    rw [hom, hoe]
    rw [show Int.sign 0 = 0 from rfl] at HS
    clear hom hoe hbz HNU
    go_enter Tryz.func48, Tryz.ntmps48
    go_wp2_with fail
    refine HS.mono ?_
    rintro e t1 ⟨rfl, g1⟩
    have HC1 := hide (block_upW g1 H1.out)
    have HG := hide (bl_trans8 HB.out g1)
    have hf1 := tri8f HC1.out
    obtain ⟨m0, m1, m2⟩ := tri8 HC1.out
    clear g1 HS
    go_wp2
    have T3 := tri8_all HC1.out (.bool false) (.slice none 0 0) (.int .i64 0)
    have T4 := below_tri8 HG.out (show w.heap.size ≤ w.heap.size + 1 by omega) (.bool false) (.slice none 0 0) (.int .i64 0)
    obtain ⟨p0, p1, p2⟩ := tri8 T3
    have HE := hide T4
    clear T3 T4
    generalize ((t1.setCell ⟨w.heap.size + 1, 0, none⟩ (.bool false)).setCell ⟨w.heap.size + 1, 1, none⟩ (.slice none 0 0)).setCell ⟨w.heap.size + 1, 2, none⟩ (.int .i64 0) = w5 at *
    refine bodyPost_ret (v := .agg #[.bool false, .slice none 0 0, .int .i64 0]) (by simp [results, Tryz.results48, go_sem, p0, p1, p2]) rfl ?_
    exact ⟨⟨false, none, 0, 0, rfl, rfl, Num.nil8 _⟩, HE.out⟩
  · have hs0 : (z.sign == 0) = false := by
      rw [beq_eq_false_iff_ne]
      intro h; exact hz (Int.sign_eq_zero_iff_zero.1 h)
    obtain ⟨t, ht⟩ : ∃ t, t = tl z.natAbs := ⟨_, rfl⟩
    have htl := tl_is (x := z.natAbs) (by omega)
    rw [← ht] at htl
    have htb := tl_le z.natAbs
    rw [← ht] at htb
    have hom : (omz z).natAbs = z.natAbs / 2 ^ t := by rw [omz_abs, ht]; rfl
    have hoe : oe z ex = ex + (t : Int) := by unfold oe; rw [if_neg hz, ht]
    have hob : b = decide (omz z < 0) := by rw [hbz]; exact decide_eq_decide.2 (omz_lt z).symm
    have wk : IntKind.i64.wrap (ex + (t : Int)) = ex + (t : Int) := by rw [IntKind.wrap_i64]; omega
    have HT := hide (fun (W : World) (hg : Below w.heap.size w W) => rtail_any (.slice a n c) z.natAbs t W (HNU.out.below hg) (.inr htl))
    have HSH := hide (fun (W : World) (hg : Below w.heap.size w W) => rshr_any (.slice a n c) z.natAbs t W (HNU.out.below hg) hbl (by omega))
    rw [← hom] at HSH
    rw [hoe]
    have HOB := hide hob
    generalize omz z = M at *
    generalize z.sign = sg' at *
    generalize hs : ex + (t : Int) = s at *
    have hs2 : ex + (t : Int) = s := hs
    clear hs hoe hob hom htl htb ht HNU hbz hz hbl
    go_enter Tryz.func48, Tryz.ntmps48
    go_wp2_with fail
    refine HS.mono ?_
    rintro e t1 ⟨rfl, g1⟩
    have c0 := block_upW g1 H0.out
    have HC1 := hide (block_upW g1 H1.out)
    have G1 := bl_trans8 HB.out g1
    obtain ⟨k0, k1⟩ := duo c0
    have HC0 := hide c0
    have HG := hide G1
    have HTT := HT.out t1 G1
    clear g1 HS c0 G1 H0 H1 HT
    go_wp2_with fail
    refine HTT.mono ?_
    rintro e wn ⟨rfl, hw⟩; rw [hw]; clear hw wn HTT
    have gd : Below w.heap.size w t1.drew := HG.out.drew
    have g0 : Below t1.drew.heap.size t1.drew t1.drew := Below.refl _ _
    have HR := HSH.out t1.drew gd
    have KS := hide (fun (W : World) (hg : Below t1.drew.heap.size t1.drew W) => show W.cell? ⟨w.heap.size, 0, none⟩ = some (.bool b) ∧ W.cell? ⟨w.heap.size, 1, none⟩ = some (.slice a n c) from duo (block_upW hg (show t1.drew.heap[w.heap.size]? = some (.cells #[.bool b, .slice a n c] 43) from HC0.out)))
    have so : ∀ (W : World) (k : Nat) (u : Value) (k' : Nat), (W.setCell ⟨w.heap.size + 1, k, none⟩ u).cell? ⟨w.heap.size, k', none⟩ = W.cell? ⟨w.heap.size, k', none⟩ := fun W k u k' => cell_other8 (by omega)
    have HD := hide gd
    clear gd HSH
    go_wp2
    go_region_held3 (fun w' => w'.cell? ⟨w.heap.size, 0, none⟩ = some (.bool b) ∧ w'.cell? ⟨w.heap.size, 1, none⟩ = some (.slice a n c)) (first | with_reducible exact KS.out _ g1 | with_reducible exact KS.out _ g0 | (refine ⟨?_, ?_⟩ <;> (rw [so, so, so]; first | exact (KS.out _ g1).1 | exact (KS.out _ g1).2))) (first
      | (go_at_call 87; refine HR.mono ?_; rintro e' t2 ⟨⟨v2, rfl, N2⟩, g1⟩; obtain ⟨a2, n2, c2, rfl⟩ := N2.sl; have hz := block_upW g1 (show t1.drew.heap[w.heap.size + 1]? = some (.cells #[.bool false, .slice none 0 0, .int .i64 0] 45) from HC1.out); have hf := tri8f hz; obtain ⟨m0, m1, m2⟩ := tri8 hz))
    have T3 := tri8_all hz (.bool b) (.slice a2 n2 c2) (.int .i64 s)
    have T4 := below_tri8 (bl_trans8 HD.out g1) (show w.heap.size ≤ w.heap.size + 1 by omega) (.bool b) (.slice a2 n2 c2) (.int .i64 s)
    have T5 := N2.tri8 hz b a2 n2 c2 (.int .i64 s)
    obtain ⟨p0, p1, p2⟩ := tri8 T3
    have HE := hide (And.intro T5 T4)
    clear T3 T4 T5 so m0 m1 m2 hf KS g0 g1 HR hz N2
    generalize ((t2.setCell ⟨w.heap.size + 1, 0, none⟩ (.bool b)).setCell ⟨w.heap.size + 1, 1, none⟩ (.slice a2 n2 c2)).setCell ⟨w.heap.size + 1, 2, none⟩ (.int .i64 s) = w5 at *
    go_wp2
    refine bodyPost_ret (v := .agg #[.bool b, .slice a2 n2 c2, .int .i64 s]) (by simp [results, Tryz.results48, go_sem, p0, p1, p2]) rfl ?_
    exact ⟨⟨_, _, _, _, rfl, HOB.out, HE.out.1⟩, HE.out.2⟩

set_option maxRecDepth 20000 in
set_option maxHeartbeats 1000000 in
theorem rdInt_any (x ex : Int) (w : World) (hx1 : -9223372036854775808 ≤ x) (hx2 : x ≤ 9223372036854775807) (h1 : -4611686018427387904 ≤ ex) (h2 : ex ≤ 4611686018427387904) :
    Calls Tryz.prog 54 #[.int .i64 x, .int .i64 ex] w (DnDone w (omz x) (oe x ex)) := by
  obtain ⟨w0, hw0, hb0, h0⟩ := enter1 w (.cells #[.bool false, .slice none 0 0, .int .i64 0] 45)
  have HI := rzint_any x w0 hx1 hx2
  have hxa : x.natAbs ≤ 9223372036854775808 := by omega
  have hbl : blen x.natAbs ≤ 64 := (blen_le_iff _ _).2 (Nat.lt_of_le_of_lt hxa (by decide))
  have HO := hide (fun (W : World) (b : Bool) (a : Option Addr) (n c : Nat) (hz : Zn W (.agg #[.bool b, .slice a n c]) x) => rdOf_any b a n c x ex W hz (by omega) h1 h2)
  have H0 := hide h0
  have HB := hide hb0
  generalize omz x = M at *
  generalize oe x ex = E at *
  clear h0 hb0 hbl hxa
  go_enter Tryz.func54, Tryz.ntmps54
  go_wp2_with fail
  refine HI.mono ?_
  rintro e t1 ⟨⟨b1, a1, n1, c1, rfl, z1⟩, g1⟩
  have HH := HO.out t1 b1 a1 n1 c1 z1
  have HC0 := hide (block_upW g1 H0.out)
  have HG1 := hide (bl_trans8 HB.out g1)
  clear g1 HI z1
  go_wp2_with fail
  refine HH.mono ?_
  rintro e t2 ⟨⟨b2, a2, n2, c2, rfl, d2⟩, g2⟩
  have HC1 := hide (block_upW g2 HC0.out)
  have HG := hide (bl_trans8 HG1.out g2)
  have HDR := hide d2
  have hf1 := tri8f HC1.out
  obtain ⟨m0, m1, m2⟩ := tri8 HC1.out
  clear g2 HH d2 HC0
  go_wp2
  have T3 := tri8_all HC1.out (.bool b2) (.slice a2 n2 c2) (.int .i64 E)
  have T4 := below_tri8 HG.out (Nat.le_refl w.heap.size) (.bool b2) (.slice a2 n2 c2) (.int .i64 E)
  have T5 := HDR.out.tri8 HC1.out b2 a2 n2 c2 (.int .i64 E)
  obtain ⟨p0, p1, p2⟩ := tri8 T3
  have HE := hide (And.intro T5 T4)
  clear T3 T4 T5
  generalize ((t2.setCell ⟨w.heap.size, 0, none⟩ (.bool b2)).setCell ⟨w.heap.size, 1, none⟩ (.slice a2 n2 c2)).setCell ⟨w.heap.size, 2, none⟩ (.int .i64 E) = w5 at *
  refine bodyPost_ret (v := .agg #[.bool b2, .slice a2 n2 c2, .int .i64 E]) (by simp [results, Tryz.results54, go_sem, p0, p1, p2]) rfl ?_
  exact ⟨⟨_, _, _, _, rfl, HE.out.1⟩, HE.out.2⟩

set_option maxRecDepth 20000 in
set_option maxHeartbeats 1000000 in
theorem rdIs_any (b : Bool) (a : Option Addr) (n c : Nat) (M E : Int) (u : Value) (rs : List Nat) (w : World) (h : Dn w b (.slice a n c) M) (ha : Arg w u rs) (ht : tr rs = rs) (hv : val rs = M.natAbs) (hf : blen M.natAbs ≤ 1125899906842624) :
    Calls Tryz.prog 51 #[.agg #[.bool b, .slice a n c, .int .i64 E], .bool b, u, .int .i64 E] w fun e w' => e = .returned (.bool true) ∧ Below w.heap.size w w' := by
  obtain ⟨w0, hw0, hb0, h0⟩ := enter1 w (.cells #[.bool b, .slice a n c, .int .i64 E] 45)
  obtain ⟨k0, k1, k2⟩ := tri8 h0
  have hzn : Zn w0 (.agg #[.bool b, .slice a n c]) M := ⟨.slice a n c, by rw [h.1], h.2.below hb0⟩
  have HI := rzis_any _ M u rs w0 hzn (ha.below hb0) ht hv hf
  rw [← h.1] at HI
  obtain ⟨au, cu, rfl, _, _, _⟩ := ha.form
  have hbe : ((E : Int) == E) = true := by simp
  have H0 := hide h0
  have HB := hide hb0
  clear h0 hb0 hzn h ha ht hv hf
  go_enter Tryz.func51, Tryz.ntmps51
  go_wp2_with fail
  refine HI.mono ?_
  rintro e t1 ⟨rfl, g1⟩
  obtain ⟨l0, l1, l2⟩ := tri8 (block_upW g1 H0.out)
  have HG := hide (bl_trans8 HB.out g1)
  clear g1 HI
  go_wp2
  go_ret
  exact ⟨rfl, HG.out⟩

end Go.Proofs.YtppkhhbhnhijpaaGreatDoor

/- The laws' example: Make(12, -3) is 3p-1. -/
namespace Go.Proofs.YtppkhhbhnhijpaaGreatDoor
open Go.RowKit
open Lm
attribute [local go_sem ↓] Go.wp_at_zero Go.wp_at_succ

theorem omz_12 : omz 12 = 3 ∧ oe 12 (-3) = -1 := by
  have h := omz_shift 3 (-3) 2
  have h3 := omz_odd (z := 3) (by decide) (-3 + 2)
  exact ⟨by rw [show (12 : Int) = 3 * 2 ^ 2 by decide, h.1, h3.1], by rw [show (12 : Int) = 3 * 2 ^ 2 by decide, h.2]; exact h3.2⟩

theorem DR.fine {w : World} {base : Nat} {b : Bool} {va : Value} {ex c M E : Int} (h : DR w base b va ex c M E) (hb : blen M.natAbs ≤ 67108864) (hE : fitE E = true) : c = 0 ∧ b = decide (M < 0) ∧ ex = E ∧ ∃ rs, Ans w base va rs ∧ val rs = M.natAbs ∧ tr rs = rs := by
  obtain ⟨rs, h1, h2 | h2 | h2⟩ := h
  · exact ⟨h2.1, h2.2.1, h2.2.2.2.2.1, rs, h1, h2.2.2.1, h2.2.2.2.1⟩
  · have := h2.2.2.2.2.2; omega
  · have := h2.2.2.2.2.2.2; rw [hE] at this; cases this

end Go.Proofs.YtppkhhbhnhijpaaGreatDoor
