/- The document's whole numbers: Is, Sign, Neg, Abs, Cmp, Add, Sub, Mul. -/
import Derived.Test.YtgkbjoobgaldnaaDoorQ2
import Derived.Test.YtgkbjoobgaldnaaDoorQG
import Derived.Deep.RegionHeld3
import Derived.Test.YtgkbjoobgaldnaaDoorQR
import Derived.Test.YtgkbjoobgaldnaaDoorQH
namespace Go.Proofs.YtgkbjoobgaldnaaDoor
open Go.RowKit
open Lm
attribute [local go_sem ↓] Go.wp_at_zero Go.wp_at_succ

theorem Zn.parts {w : World} {v : Value} {z : Int} (h : Zn w v z) : ∃ b a n k, v = .agg #[.bool b, .slice a n k] ∧ b = decide (z < 0) ∧ Num w (.slice a n k) z.natAbs ∧ z = zz b z.natAbs := by
  obtain ⟨u, h1, h2⟩ := h
  obtain ⟨a, n, k, rfl⟩ := h2.sl
  exact ⟨_, a, n, k, h1, rfl, h2, (zz_self z).symm⟩

theorem Zn.of {w : World} {b : Bool} {u : Value} {x : Nat} (h : Num w u x) (hb : x = 0 → b = false) : Zn w (.agg #[.bool b, u]) (zz b x) := by
  refine ⟨u, ?_, by rw [zz_abs]; exact h⟩
  rw [← zz_nat]
  cases b
  · rfl
  · have : ¬ x = 0 := fun e => by have := hb e; cases this
    have h1 : (x == 0) = false := by simpa using this
    rw [h1]; rfl

theorem Num.drew6 {w : World} {v : Value} {x : Nat} (h : Num w v x) : Num w.drew v x := h.below (Below.refl _ _).drew
theorem Zn.drew6 {w : World} {v : Value} {z : Int} (h : Zn w v z) : Zn w.drew v z := h.below (Below.refl _ _).drew
theorem below_undrew6 {w w' : World} (h : Below w.drew.heap.size w.drew w') : Below w.heap.size w w' := (Below.refl w.heap.size w).drew.trans h

theorem cell_up6 {w w' : World} {g o : Nat} {v : Value} (hb : Below w.heap.size w w') (h : w.cell? ⟨g, o, none⟩ = some v) : w'.cell? ⟨g, o, none⟩ = some v := by
  rw [hb.cell (p := ⟨g, o, none⟩) ?_]
  · exact h
  · show g < w.heap.size
    rcases Nat.lt_or_ge g w.heap.size with h' | h'
    · exact h'
    · simp [World.cell?, Array.getElem?_eq_none h'] at h

theorem is_true6 {w : World} {v u : Value} {x : Nat} {rs : List Nat} (hn : Num w v x) (ha : Arg w u rs) (ht : tr rs = rs) (hv : val rs = x) (hf : blen x ≤ 1125899906842624) :
    Calls Tryd.prog 26 #[v, u] w fun e w' => e = .returned (.bool true) ∧ Below w.heap.size w w' := is_true v u x rs w hn ha ht hv hf

set_option maxHeartbeats 1000000 in
theorem rzis_any (v : Value) (z : Int) (u : Value) (rs : List Nat) (w : World) (h : Zn w v z) (ha : Arg w u rs) (ht : tr rs = rs) (hv : val rs = z.natAbs) (hf : blen z.natAbs ≤ 1125899906842624) :
    Calls Tryd.prog 14 #[v, .bool (decide (z < 0)), u] w fun e w' => e = .returned (.bool true) ∧ Below w.heap.size w w' := by
  obtain ⟨b, a, n, k, rfl, hb, hn, hz⟩ := h.parts
  rw [← hb]
  obtain ⟨w0, hw0, hb0, h0⟩ := enter1 w (.cells #[.bool b, .slice a n k] 38)
  obtain ⟨k0, k1⟩ := duo h0
  obtain ⟨a2, k2, rfl, _, _, _⟩ := ha.form
  have HI := is_true6 (hn.below hb0) (ha.below hb0) ht hv hf
  have HB0 := hide hb0
  clear h hn hz hb0 h0 ha hb hv hf ht
  have hbb : (b == b) = true := by simp
  go_enter Tryd.func14, Tryd.ntmps14
  go_wp2_with fail
  refine HI.mono ?_
  rintro e w1 ⟨rfl, hb1⟩
  have HB1 := hide (HB0.out.trans (hb1.mono HB0.out.size))
  clear hb1 HI
  go_wp2
  go_ret
  exact ⟨rfl, HB1.out⟩

set_option maxHeartbeats 1000000 in
theorem rzsign_any (v : Value) (z : Int) (w : World) (h : Zn w v z) : Calls Tryd.prog 20 #[v] w fun e w' => e = .returned (.int .i64 z.sign) ∧ Below w.heap.size w w' := by
  obtain ⟨b, a, n, k, rfl, hb, hn, hz⟩ := h.parts
  obtain ⟨w0, hw0, hb0, h0⟩ := enter1 w (.cells #[.bool b, .slice a n k] 38)
  obtain ⟨k0, k1⟩ := duo h0
  have HZ := zero_any _ z.natAbs w0 (hn.below hb0)
  have HB0 := hide hb0
  clear h hn hb0 h0 hz
  by_cases hneg : z < 0
  · rw [decide_eq_true hneg] at hb
    subst hb
    rw [Int.sign_eq_neg_one_of_neg hneg]
    go_enter Tryd.func20, Tryd.ntmps20
    go_wp2
    go_ret
    exact ⟨rfl, HB0.out⟩
  · rw [decide_eq_false hneg] at hb
    subst hb
    by_cases h0 : z = 0
    · subst h0
      rw [Int.sign_zero]
      simp only [Int.natAbs_zero, beq_self_eq_true] at HZ
      go_enter Tryd.func20, Tryd.ntmps20
      go_wp2_with fail
      refine HZ.mono ?_
      rintro e wn ⟨rfl, hw⟩; rw [hw]; clear hw wn HZ
      go_wp2
      go_ret
      exact ⟨rfl, HB0.out⟩
    · rw [Int.sign_eq_one_of_pos (by omega)]
      have hne : (z.natAbs == 0) = false := by rw [beq_eq_false_iff_ne]; omega
      rw [hne] at HZ
      go_enter Tryd.func20, Tryd.ntmps20
      go_wp2_with fail
      refine HZ.mono ?_
      rintro e wn ⟨rfl, hw⟩; rw [hw]; clear hw wn HZ
      go_wp2
      go_ret
      exact ⟨rfl, HB0.out⟩

/-- The order of whole numbers, as an int. -/
def cmpZ (y z : Int) : Int := if y < z then -1 else if z < y then 1 else 0

theorem cmpZ_same (b : Bool) (x y : Nat) : cmpZ (zz b x) (zz b y) = if b then -(cmpN x y) else cmpN x y := by
  unfold cmpZ cmpN
  cases b
  · simp only [zz, Bool.false_eq_true, if_false]
    split <;> split <;> (try split) <;> omega
  · simp only [zz, if_true]
    split <;> split <;> (try split) <;> (try split) <;> omega

end Go.Proofs.YtgkbjoobgaldnaaDoor

/- The document's Int; what the laws of whole numbers use: num, of, in, lent, alike. -/
namespace Go.Proofs.YtgkbjoobgaldnaaDoor
open Go.RowKit
open Lm
attribute [local go_sem ↓] Go.wp_at_zero Go.wp_at_succ

set_option maxHeartbeats 1000000 in
theorem rzint_any (n : Int) (w : World) (h1 : -9223372036854775808 ≤ n) (h2 : n ≤ 9223372036854775807) :
    Calls Tryd.prog 13 #[.int .i64 n] w (ZnDone w n) := by
  obtain ⟨w0, hw0, hb0, hx0⟩ := enter1 w (.cells #[.bool false, .slice none 0 0] 38)
  have HB0 := hide hb0
  have HX0 := hide hx0
  by_cases hn : n < 0
  · obtain ⟨x, hx, hx2⟩ : ∃ x : Nat, n = -(x : Int) ∧ x < 18446744073709551616 := ⟨n.natAbs, by omega, by omega⟩
    have q1 : IntKind.i64.wrap (n + 1) = n + 1 := by rw [IntKind.wrap_i64]; omega
    have q2 : IntKind.i64.wrap (-(n + 1)) = -(n + 1) := by rw [IntKind.wrap_i64]; omega
    have q3 : IntKind.u64.wrap (-(n + 1)) = -(n + 1) := by rw [IntKind.wrap_u64]; omega
    have q4 : IntKind.u64.wrap (-(n + 1) + 1) = (x : Int) := by rw [IntKind.wrap_u64]; omega
    obtain ⟨w6, hw6, hb6, hx6⟩ := enter1 w0 (.cells #[.int .u64 x] 45)
    have hblk : Blk w6 w0.heap.size [x] := hx6
    have A6 := Ans.of_blk (base := w0.heap.size) (zs := [x]) (Nat.le_refl _) hblk (by simp) (by simp) (by simp) (by intro z hz; simp at hz; omega)
    have HO := of_any (.slice (some ⟨w0.heap.size, 0, none⟩) 1 1) [x] w6 (A6.arg (by simp)) (by simp)
    rw [show val [x] = x from by simp [val]] at HO
    have HB6 := hide hb6
    have ez : zz true x = n := by simp [zz]; omega
    have HEZ := hide ez
    clear hb0 hx0 hb6 hx6 hblk A6 hx ez
    go_enter Tryd.func13, Tryd.ntmps13
    go_wp2_with fail
    refine HO.mono ?_
    rintro e w1 ⟨⟨v1, rfl, hn1⟩, hb1⟩
    have HM := rmake1_ok true v1 x w1 hn1
    rw [HEZ.out] at HM
    have HW1 := hide (HB6.out.trans (hb1.mono HB6.out.size))
    obtain ⟨a2, n2, k2, rfl⟩ := hn1.sl
    clear hn1 hb1 HO
    go_wp2_with fail
    refine HM.mono ?_
    rintro e w2 ⟨⟨b1, a1, n1, k1, rfl, hzn⟩, hb2⟩
    have HZN := hide hzn
    have HW := hide (HW1.out.trans (hb2.mono HW1.out.size))
    clear hzn hb2 HM hw0 hw6
    have hbx := block_upW HW.out HX0.out
    have hf1 := duof hbx
    obtain ⟨l0, l1⟩ := duo hbx
    have HBX := hide hbx
    have HBE := hide (HB0.out.trans (HW.out.mono HB0.out.size))
    clear hbx
    go_wp2
    have R5 := duo_all HBX.out (a' := .bool b1) (b' := .slice a1 n1 k1)
    have HD := hide (And.intro (HZN.out.duo (p1 := b1) (r1 := .slice a1 n1 k1) HBX.out) (below_duo HBE.out (g := w.heap.size) (u0 := .bool b1) (u1 := .slice a1 n1 k1) (by omega)))
    generalize (w2.setCell ⟨w.heap.size, 0, none⟩ (.bool b1)).setCell ⟨w.heap.size, 1, none⟩ (.slice a1 n1 k1) = w5 at *
    obtain ⟨q0, q1⟩ := duo R5
    refine bodyPost_ret (v := .agg #[.bool b1, .slice a1 n1 k1]) (by simp [results, Tryd.results13, go_sem, q0, q1]) rfl ?_
    exact ⟨⟨_, _, _, _, rfl, HD.out.1⟩, HD.out.2⟩
  · obtain ⟨x, hx, hx2⟩ : ∃ x : Nat, n = (x : Int) ∧ x < 9223372036854775808 := ⟨n.natAbs, by omega, by omega⟩
    subst hx
    have HO := rint_all x w0 hx2
    have ez : zz false x = (x : Int) := by simp [zz]
    have HEZ := hide ez
    clear hb0 hx0 ez
    go_enter Tryd.func13, Tryd.ntmps13
    go_wp2_with fail
    refine HO.mono ?_
    rintro e w1 ⟨⟨v1, rfl, hn1⟩, hb1⟩
    have HM := rmake1_ok false v1 x w1 hn1
    rw [HEZ.out] at HM
    have HW1 := hide hb1
    obtain ⟨a2, n2, k2, rfl⟩ := hn1.sl
    clear hn1 hb1 HO
    go_wp2_with fail
    refine HM.mono ?_
    rintro e w2 ⟨⟨b1, a1, n1, k1, rfl, hzn⟩, hb2⟩
    have HZN := hide hzn
    have HW := hide (HW1.out.trans (hb2.mono HW1.out.size))
    clear hzn hb2 HM hw0
    have hbx := block_upW HW.out HX0.out
    have hf1 := duof hbx
    obtain ⟨l0, l1⟩ := duo hbx
    have HBX := hide hbx
    have HBE := hide (HB0.out.trans (HW.out.mono HB0.out.size))
    clear hbx
    go_wp2
    have R5 := duo_all HBX.out (a' := .bool b1) (b' := .slice a1 n1 k1)
    have HD := hide (And.intro (HZN.out.duo (p1 := b1) (r1 := .slice a1 n1 k1) HBX.out) (below_duo HBE.out (g := w.heap.size) (u0 := .bool b1) (u1 := .slice a1 n1 k1) (by omega)))
    generalize (w2.setCell ⟨w.heap.size, 0, none⟩ (.bool b1)).setCell ⟨w.heap.size, 1, none⟩ (.slice a1 n1 k1) = w5 at *
    obtain ⟨q0, q1⟩ := duo R5
    refine bodyPost_ret (v := .agg #[.bool b1, .slice a1 n1 k1]) (by simp [results, Tryd.results13, go_sem, q0, q1]) rfl ?_
    exact ⟨⟨_, _, _, _, rfl, HD.out.1⟩, HD.out.2⟩

end Go.Proofs.YtgkbjoobgaldnaaDoor
