/- The document's whole numbers: Is, Sign, Neg, Abs, Cmp, Add, Sub, Mul. -/
import Derived.Test.YtppkhhbhnhijpaaGreatDoorQ2
import Derived.Test.YtppkhhbhnhijpaaGreatDoorQG
import Derived.Deep.RegionHeld3
import Derived.Test.YtppkhhbhnhijpaaGreatDoorQR
import Derived.Test.YtppkhhbhnhijpaaGreatDoorQH
namespace Go.Proofs.YtppkhhbhnhijpaaGreatDoor
open Go.RowKit
open Lm
attribute [local go_sem ↓] Go.wp_at_zero Go.wp_at_succ

theorem Zn.parts {w : World} {v : Value} {z : Int} (h : Zn w v z) : ∃ b a n k, v = .agg #[.bool b, .slice a n k] ∧ b = decide (z < 0) ∧ Num w (.slice a n k) z.natAbs ∧ z = zz b z.natAbs := by
  obtain ⟨u, h1, h2⟩ := h
  obtain ⟨a, n, k, rfl⟩ := h2.sl
  exact ⟨_, a, n, k, h1, rfl, h2, (zz_self z).symm⟩

theorem Zn.of {w : World} {b : Bool} {u : Value} {x : Nat} (h : Num w u x) (hb : x = 0 → b = false) : Zn w (.agg #[.bool b, u]) (zz b x) := by
  refine ⟨u, ?_, by rw [zz_abs]; exact h⟩
  rw [← zz_nat]
  cases b
  · rfl
  · have : ¬ x = 0 := fun e => by have := hb e; cases this
    have h1 : (x == 0) = false := by simpa using this
    rw [h1]; rfl

theorem Num.drew6 {w : World} {v : Value} {x : Nat} (h : Num w v x) : Num w.drew v x := h.below (Below.refl _ _).drew
theorem Zn.drew6 {w : World} {v : Value} {z : Int} (h : Zn w v z) : Zn w.drew v z := h.below (Below.refl _ _).drew
theorem below_undrew6 {w w' : World} (h : Below w.drew.heap.size w.drew w') : Below w.heap.size w w' := (Below.refl w.heap.size w).drew.trans h

theorem cell_up6 {w w' : World} {g o : Nat} {v : Value} (hb : Below w.heap.size w w') (h : w.cell? ⟨g, o, none⟩ = some v) : w'.cell? ⟨g, o, none⟩ = some v := by
  rw [hb.cell (p := ⟨g, o, none⟩) ?_]
  · exact h
  · show g < w.heap.size
    rcases Nat.lt_or_ge g w.heap.size with h' | h'
    · exact h'
    · simp [World.cell?, Array.getElem?_eq_none h'] at h

set_option maxHeartbeats 1000000 in
theorem rzneg_any (v : Value) (z : Int) (w : World) (h : Zn w v z) : Calls Tryz.prog 74 #[v] w (ZnDone w (-z)) := by
  obtain ⟨b, a, n, k, rfl, hb, hn, hz⟩ := h.parts
  obtain ⟨w0, hw0, hb0, h0, hx0⟩ := enter2 w (.cells #[.bool b, .slice a n k] 43) (.cells #[.bool false, .slice none 0 0] 43)
  obtain ⟨k0, k1⟩ := duo h0
  have HM := rmake1_ok (!b) _ z.natAbs w0 (hn.below hb0)
  rw [zz_neg, ← hz] at HM
  have HB0 := hide hb0
  have HX0 := hide hx0
  clear h hb hn hz hb0 h0 hx0
  go_enter Tryz.func74, Tryz.ntmps74
  go_wp2_with fail
  refine HM.mono ?_
  rintro e w1 ⟨⟨b1, a1, n1, k1, rfl, hzn⟩, hb1⟩
  have HZN := hide hzn
  have HW := hide hb1
  clear hzn hb1 HM hw0 k0
  have hbx := block_upW HW.out HX0.out
  have hf1 := duof hbx
  obtain ⟨l0, l1⟩ := duo hbx
  have HBX := hide hbx
  have HBE := hide (HB0.out.trans (HW.out.mono HB0.out.size))
  clear hbx
  go_wp2
  have R5 := duo_all HBX.out (a' := .bool b1) (b' := .slice a1 n1 k1)
  have HD := hide (And.intro (HZN.out.duo (p1 := b1) (r1 := .slice a1 n1 k1) HBX.out) (below_duo HBE.out (g := w.heap.size + 1) (u0 := .bool b1) (u1 := .slice a1 n1 k1) (by omega)))
  generalize (w1.setCell ⟨w.heap.size + 1, 0, none⟩ (.bool b1)).setCell ⟨w.heap.size + 1, 1, none⟩ (.slice a1 n1 k1) = w5 at *
  obtain ⟨q0, q1⟩ := duo R5
  refine bodyPost_ret (v := .agg #[.bool b1, .slice a1 n1 k1]) (by simp [results, Tryz.results74, go_sem, q0, q1]) rfl ?_
  exact ⟨⟨_, _, _, _, rfl, HD.out.1⟩, HD.out.2⟩

theorem is_true6 {w : World} {v u : Value} {x : Nat} {rs : List Nat} (hn : Num w v x) (ha : Arg w u rs) (ht : tr rs = rs) (hv : val rs = x) (hf : blen x ≤ 1125899906842624) :
    Calls Tryz.prog 112 #[v, u] w fun e w' => e = .returned (.bool true) ∧ Below w.heap.size w w' := is_true v u x rs w hn ha ht hv hf

set_option maxHeartbeats 1000000 in
theorem rzis_any (v : Value) (z : Int) (u : Value) (rs : List Nat) (w : World) (h : Zn w v z) (ha : Arg w u rs) (ht : tr rs = rs) (hv : val rs = z.natAbs) (hf : blen z.natAbs ≤ 1125899906842624) :
    Calls Tryz.prog 90 #[v, .bool (decide (z < 0)), u] w fun e w' => e = .returned (.bool true) ∧ Below w.heap.size w w' := by
  obtain ⟨b, a, n, k, rfl, hb, hn, hz⟩ := h.parts
  rw [← hb]
  obtain ⟨w0, hw0, hb0, h0⟩ := enter1 w (.cells #[.bool b, .slice a n k] 43)
  obtain ⟨k0, k1⟩ := duo h0
  obtain ⟨a2, k2, rfl, _, _, _⟩ := ha.form
  have HI := is_true6 (hn.below hb0) (ha.below hb0) ht hv hf
  have HB0 := hide hb0
  clear h hn hz hb0 h0 ha hb hv hf ht
  have hbb : (b == b) = true := by simp
  go_enter Tryz.func90, Tryz.ntmps90
  go_wp2_with fail
  refine HI.mono ?_
  rintro e w1 ⟨rfl, hb1⟩
  have HB1 := hide (HB0.out.trans (hb1.mono HB0.out.size))
  clear hb1 HI
  go_wp2
  go_ret
  exact ⟨rfl, HB1.out⟩

set_option maxHeartbeats 1000000 in
theorem rzsign_any (v : Value) (z : Int) (w : World) (h : Zn w v z) : Calls Tryz.prog 63 #[v] w fun e w' => e = .returned (.int .i64 z.sign) ∧ Below w.heap.size w w' := by
  obtain ⟨b, a, n, k, rfl, hb, hn, hz⟩ := h.parts
  obtain ⟨w0, hw0, hb0, h0⟩ := enter1 w (.cells #[.bool b, .slice a n k] 43)
  obtain ⟨k0, k1⟩ := duo h0
  have HZ := zero_any _ z.natAbs w0 (hn.below hb0)
  have HB0 := hide hb0
  clear h hn hb0 h0 hz
  by_cases hneg : z < 0
  · rw [decide_eq_true hneg] at hb
    subst hb
    rw [Int.sign_eq_neg_one_of_neg hneg]
    go_enter Tryz.func63, Tryz.ntmps63
    go_wp2
    go_ret
    exact ⟨rfl, HB0.out⟩
  · rw [decide_eq_false hneg] at hb
    subst hb
    by_cases h0 : z = 0
    · subst h0
      rw [Int.sign_zero]
      simp only [Int.natAbs_zero, beq_self_eq_true] at HZ
      go_enter Tryz.func63, Tryz.ntmps63
      go_wp2_with fail
      refine HZ.mono ?_
      rintro e wn ⟨rfl, hw⟩; rw [hw]; clear hw wn HZ
      go_wp2
      go_ret
      exact ⟨rfl, HB0.out⟩
    · rw [Int.sign_eq_one_of_pos (by omega)]
      have hne : (z.natAbs == 0) = false := by rw [beq_eq_false_iff_ne]; omega
      rw [hne] at HZ
      go_enter Tryz.func63, Tryz.ntmps63
      go_wp2_with fail
      refine HZ.mono ?_
      rintro e wn ⟨rfl, hw⟩; rw [hw]; clear hw wn HZ
      go_wp2
      go_ret
      exact ⟨rfl, HB0.out⟩

/-- The order of whole numbers, as an int. -/
def cmpZ (y z : Int) : Int := if y < z then -1 else if z < y then 1 else 0

theorem cmpZ_same (b : Bool) (x y : Nat) : cmpZ (zz b x) (zz b y) = if b then -(cmpN x y) else cmpN x y := by
  unfold cmpZ cmpN
  cases b
  · simp only [zz, Bool.false_eq_true, if_false]
    split <;> split <;> (try split) <;> omega
  · simp only [zz, if_true]
    split <;> split <;> (try split) <;> (try split) <;> omega

set_option maxHeartbeats 1000000 in
theorem rzcmp_any (v1 v2 : Value) (y z : Int) (w : World) (h1 : Zn w v1 y) (h2 : Zn w v2 z) :
    Calls Tryz.prog 65 #[v1, v2] w fun e w' => e = .returned (.int .i64 (cmpZ y z)) ∧ Below w.heap.size w w' := by
  obtain ⟨b, a, n, k, rfl, hb, hn, hz⟩ := h1.parts
  obtain ⟨b2, a2, n2, k2, rfl, hb2, hn2, hz2⟩ := h2.parts
  obtain ⟨w0, hw0, hb0, h0, h1'⟩ := enter2 w (.cells #[.bool b, .slice a n k] 43) (.cells #[.bool b2, .slice a2 n2 k2] 43)
  obtain ⟨c0, c1⟩ := duo h0
  obtain ⟨c2, c3⟩ := duo h1'
  have HC := rcmp_any _ _ y.natAbs z.natAbs w0 (hn.below hb0) (hn2.below hb0)
  have HB0 := hide hb0
  have HK0 := hide h0
  have hcs := cmpZ_same b y.natAbs z.natAbs
  rw [← hz] at hcs
  have hds : b ≠ b2 → cmpZ y z = if b then -1 else 1 := by
    intro hne
    unfold cmpZ
    rw [hb, hb2] at hne
    rw [hb]
    by_cases h : y < 0
    · have : ¬ z < 0 := fun h' => hne (by rw [decide_eq_true h, decide_eq_true h'])
      rw [if_pos (by omega), if_pos (by simpa using h)]
    · have : z < 0 := by
        by_cases h' : z < 0
        · exact h'
        · exact absurd (by rw [decide_eq_false h, decide_eq_false h']) hne
      rw [if_neg (by omega), if_pos (by omega), if_neg (by simpa using h)]
  have hse : b = b2 → cmpZ y z = if b then -(cmpN y.natAbs z.natAbs) else cmpN y.natAbs z.natAbs := by
    intro he
    rw [← he] at hz2
    rw [← hz2] at hcs
    exact hcs
  clear h1 h2 hn hn2 hb0 h0 h1' hcs hz hz2 hb hb2
  have hcb : cmpN y.natAbs z.natAbs = -1 ∨ cmpN y.natAbs z.natAbs = 0 ∨ cmpN y.natAbs z.natAbs = 1 := by
    unfold cmpN
    split
    · simp
    · split <;> simp
  generalize cmpN y.natAbs z.natAbs = c at *
  cases b <;> cases b2
  · have e := hse rfl
    rw [if_neg (by simp)] at e
    rw [e]
    clear hse hds e
    go_enter Tryz.func65, Tryz.ntmps65
    go_wp2_with fail
    refine HC.mono ?_
    rintro e w1 ⟨rfl, hs⟩
    obtain ⟨d0, d1⟩ := duo (block_upW (hs.below _) HK0.out)
    have HB1 := hide (HB0.out.trans ((hs.below _ : Below w0.heap.size w0 w1).mono HB0.out.size))
    clear hs HC c0 c1 c2 c3
    go_wp2
    go_ret
    exact ⟨rfl, HB1.out⟩
  · have e := hds (by simp)
    rw [if_neg (by simp)] at e
    rw [e]
    clear hse hds e HC
    go_enter Tryz.func65, Tryz.ntmps65
    go_wp2
    go_ret
    exact ⟨rfl, HB0.out⟩
  · have e := hds (by simp)
    rw [if_pos rfl] at e
    rw [e]
    clear hse hds e HC
    go_enter Tryz.func65, Tryz.ntmps65
    go_wp2
    go_ret
    exact ⟨rfl, HB0.out⟩
  · have e := hse rfl
    rw [if_pos rfl] at e
    rw [e]
    obtain ⟨m, hm⟩ : ∃ m : Int, -c = m := ⟨_, rfl⟩
    have wm : IntKind.i64.wrap m = m := by rw [IntKind.wrap_i64]; omega
    rw [hm]
    clear hse hds e
    go_enter Tryz.func65, Tryz.ntmps65
    go_wp2_with fail
    refine HC.mono ?_
    rintro e w1 ⟨rfl, hs⟩
    obtain ⟨d0, d1⟩ := duo (block_upW (hs.below _) HK0.out)
    have HB1 := hide (HB0.out.trans ((hs.below _ : Below w0.heap.size w0 w1).mono HB0.out.size))
    clear hs HC c0 c1 c2 c3
    go_wp2
    go_ret
    exact ⟨rfl, HB1.out⟩

set_option maxHeartbeats 1000000 in
theorem rzmul_any (v1 v2 : Value) (y z : Int) (w : World) (h1 : Zn w v1 y) (h2 : Zn w v2 z) (hf : blen y.natAbs + blen z.natAbs ≤ 1125899906840000) :
    Calls Tryz.prog 106 #[v1, v2] w (ZnDone w (y * z)) := by
  obtain ⟨b, a, n, k, rfl, hb, hn, hz⟩ := h1.parts
  obtain ⟨b2, a2, n2, k2, rfl, hb2, hn2, hz2⟩ := h2.parts
  obtain ⟨w0, hw0, hb0, h0, h1', hx0⟩ := enter3 w (.cells #[.bool b, .slice a n k] 43) (.cells #[.bool b2, .slice a2 n2 k2] 43) (.cells #[.bool false, .slice none 0 0] 43)
  obtain ⟨c0, c1⟩ := duo h0
  obtain ⟨c2, c3⟩ := duo h1'
  have HM := rmul_any _ _ y.natAbs z.natAbs w0.drew (hn.below hb0).drew6 (hn2.below hb0).drew6 hf
  obtain ⟨sg, hsg, hsg2⟩ : ∃ sg, (b != b2) = sg ∧ (!(b == b2)) = sg := ⟨_, rfl, rfl⟩
  have HEQ : Hid (zz sg (y.natAbs * z.natAbs) = y * z) := by
    refine hide ?_
    rw [← hsg, ← zz_mul, ← hz, ← hz2]
  have HMK := hide (fun (w1 : World) (v : Value) (hv : Num w1 v (y.natAbs * z.natAbs)) => rmake1_ok sg v _ w1 hv)
  have HB0 := hide hb0
  have HX0 := hide hx0
  have HK0 := hide (show w0.drew.heap[w.heap.size]? = some (.cells #[.bool b, .slice a n k] 43) from h0)
  have HK1 := hide (show w0.drew.heap[w.heap.size + 1]? = some (.cells #[.bool b2, .slice a2 n2 k2] 43) from h1')
  have HXD := hide (show w0.drew.heap[w.heap.size + 2]? = some (.cells #[.bool false, .slice none 0 0] 43) from hx0)
  have hso : ∀ (W : World) (k : Nat) (u : Value) (k' : Nat), (W.setCell ⟨w.heap.size + 2, k, none⟩ u).cell? ⟨w.heap.size, k', none⟩ = W.cell? ⟨w.heap.size, k', none⟩ := fun W k u k' => cell_otherW (by omega)
  have hso2 : ∀ (W : World) (k : Nat) (u : Value) (k' : Nat), (W.setCell ⟨w.heap.size + 2, k, none⟩ u).cell? ⟨w.heap.size + 1, k', none⟩ = W.cell? ⟨w.heap.size + 1, k', none⟩ := fun W k u k' => cell_otherW (by omega)
  obtain ⟨d0, d1⟩ := duo HK0.out
  obtain ⟨d2, d3⟩ := duo HK1.out
  clear h1 h2 hn hn2 hb hb2 hz hz2 hb0 h0 h1' hx0 hsg
  go_enter Tryz.func106, Tryz.ntmps106
  go_wp2
  go_region_held3 (fun w' => w'.cell? ⟨w.heap.size, 0, none⟩ = some (.bool b) ∧ w'.cell? ⟨w.heap.size, 1, none⟩ = some (.slice a n k) ∧ w'.cell? ⟨w.heap.size + 1, 0, none⟩ = some (.bool b2) ∧ w'.cell? ⟨w.heap.size + 1, 1, none⟩ = some (.slice a2 n2 k2)) (go_keep) (first
    | (go_at_call 127; refine HM.mono ?_; rintro e' w1 ⟨⟨v1, rfl, N1⟩, hb1⟩; have x0 := cell_up6 hb1 d0; have x1 := cell_up6 hb1 d1; have x2 := cell_up6 hb1 d2; have x3 := cell_up6 hb1 d3)
    | (go_at_call 88; refine (HMK.out w1 _ N1).mono ?_; rintro e' w2 ⟨⟨b1, a1, n1, k1, rfl, hzn⟩, hb2⟩; have y0 := cell_up6 hb2 x0; have y1 := cell_up6 hb2 x1; have y2 := cell_up6 hb2 x2; have y3 := cell_up6 hb2 x3; have hz4 := block_upW hb2 (block_upW hb1 HXD.out); have hf4 := duof hz4; obtain ⟨t0, t1⟩ := duo hz4))
  have hb1' := below_undrew6 hb1
  rw [HEQ.out] at hzn
  have HZN := hide hzn
  have HBX := hide hz4
  have HBE := hide (HB0.out.trans ((hb1'.trans (hb2.mono hb1'.size)).mono HB0.out.size))
  have R5 := duo_all HBX.out (a' := .bool b1) (b' := .slice a1 n1 k1)
  have HD := hide (And.intro (HZN.out.duo (p1 := b1) (r1 := .slice a1 n1 k1) HBX.out) (below_duo HBE.out (g := w.heap.size + 2) (u0 := .bool b1) (u1 := .slice a1 n1 k1) (by omega)))
  clear hso hso2 hf4 t0 t1 y0 y1 y2 y3 x0 x1 x2 x3 hz4 N1 hb1 hb1' hb2 hzn
  generalize (w2.setCell ⟨w.heap.size + 2, 0, none⟩ (.bool b1)).setCell ⟨w.heap.size + 2, 1, none⟩ (.slice a1 n1 k1) = w5 at *
  obtain ⟨q0, q1⟩ := duo R5
  go_wp2
  refine bodyPost_ret (v := .agg #[.bool b1, .slice a1 n1 k1]) (by simp [results, Tryz.results106, go_sem, q0, q1]) rfl ?_
  exact ⟨⟨_, _, _, _, rfl, HD.out.1⟩, HD.out.2⟩

set_option maxRecDepth 20000 in
set_option maxHeartbeats 2000000 in
theorem rzadd_any (v1 v2 : Value) (y z : Int) (w : World) (h1 : Zn w v1 y) (h2 : Zn w v2 z) (hf1 : blen y.natAbs ≤ 1125899906840000) (hf2 : blen z.natAbs ≤ 1125899906840000) :
    Calls Tryz.prog 102 #[v1, v2] w (ZnDone w (y + z)) := by
  obtain ⟨b, a, n, k, rfl, hb, hn, hz⟩ := h1.parts
  obtain ⟨b2, a2, n2, k2, rfl, hb2, hn2, hz2⟩ := h2.parts
  obtain ⟨w0, hw0, hb0, h0, h1', hx0⟩ := enter3 w (.cells #[.bool b, .slice a n k] 43) (.cells #[.bool b2, .slice a2 n2 k2] 43) (.cells #[.bool false, .slice none 0 0] 43)
  obtain ⟨c0, c1⟩ := duo h0
  obtain ⟨c2, c3⟩ := duo h1'
  have HB0 := hide hb0
  have HX0 := hide hx0
  have hso : ∀ (W : World) (k : Nat) (u : Value) (k' : Nat), (W.setCell ⟨w.heap.size + 2, k, none⟩ u).cell? ⟨w.heap.size, k', none⟩ = W.cell? ⟨w.heap.size, k', none⟩ := fun W k u k' => cell_otherW (by omega)
  have hso2 : ∀ (W : World) (k : Nat) (u : Value) (k' : Nat), (W.setCell ⟨w.heap.size + 2, k, none⟩ u).cell? ⟨w.heap.size + 1, k', none⟩ = W.cell? ⟨w.heap.size + 1, k', none⟩ := fun W k u k' => cell_otherW (by omega)
  cases b <;> cases b2
  · have HM := radd_any _ _ y.natAbs z.natAbs w0.drew (hn.below hb0).drew6 (hn2.below hb0).drew6 hf1 hf2
    have HEQ : Hid (zz false (y.natAbs + z.natAbs) = y + z) := by
      refine hide ?_
      rw [← zz_add, ← hz, ← hz2]
    have HMK := hide (fun (w1 : World) (v : Value) (hv : Num w1 v (y.natAbs + z.natAbs)) => rmake1_ok false v _ w1 hv)
    have HXD := hide (show w0.drew.heap[w.heap.size + 2]? = some (.cells #[.bool false, .slice none 0 0] 43) from hx0)
    obtain ⟨d0, d1⟩ := duo (show w0.drew.heap[w.heap.size]? = some (.cells #[.bool false, .slice a n k] 43) from h0)
    obtain ⟨d2, d3⟩ := duo (show w0.drew.heap[w.heap.size + 1]? = some (.cells #[.bool false, .slice a2 n2 k2] 43) from h1')
    clear h1 h2 hn hn2 hb hb2 hz hz2 hb0 h0 h1' hx0
    go_enter Tryz.func102, Tryz.ntmps102
    go_wp2
    go_region_held3 (fun w' => w'.cell? ⟨w.heap.size, 0, none⟩ = some (.bool false) ∧ w'.cell? ⟨w.heap.size, 1, none⟩ = some (.slice a n k) ∧ w'.cell? ⟨w.heap.size + 1, 0, none⟩ = some (.bool false) ∧ w'.cell? ⟨w.heap.size + 1, 1, none⟩ = some (.slice a2 n2 k2)) (go_keep) (first
      | (go_at_call 125; refine HM.mono ?_; rintro e' w1 ⟨⟨v1, rfl, N1⟩, hb1⟩; have x0 := cell_up6 hb1 d0; have x1 := cell_up6 hb1 d1; have x2 := cell_up6 hb1 d2; have x3 := cell_up6 hb1 d3)
      | (go_at_call 88; refine (HMK.out w1 _ N1).mono ?_; rintro e' w2 ⟨⟨b1, a1, n1, k1, rfl, hzn⟩, hb2⟩; have y0 := cell_up6 hb2 x0; have y1 := cell_up6 hb2 x1; have y2 := cell_up6 hb2 x2; have y3 := cell_up6 hb2 x3; have hz4 := block_upW hb2 (block_upW hb1 HXD.out); have hf4 := duof hz4; obtain ⟨t0, t1⟩ := duo hz4))
    have hb1' := below_undrew6 hb1
    rw [HEQ.out] at hzn
    have HZN := hide hzn
    have HBX := hide hz4
    have HBE := hide (HB0.out.trans ((hb1'.trans (hb2.mono hb1'.size)).mono HB0.out.size))
    have R5 := duo_all HBX.out (a' := .bool b1) (b' := .slice a1 n1 k1)
    have HD := hide (And.intro (HZN.out.duo (p1 := b1) (r1 := .slice a1 n1 k1) HBX.out) (below_duo HBE.out (g := w.heap.size + 2) (u0 := .bool b1) (u1 := .slice a1 n1 k1) (by omega)))
    clear hso hso2 hf4 t0 t1 y0 y1 y2 y3 x0 x1 x2 x3 hz4 N1 hb1 hb1' hb2 hzn
    generalize (w2.setCell ⟨w.heap.size + 2, 0, none⟩ (.bool b1)).setCell ⟨w.heap.size + 2, 1, none⟩ (.slice a1 n1 k1) = w5 at *
    obtain ⟨q0, q1⟩ := duo R5
    go_wp2
    refine bodyPost_ret (v := .agg #[.bool b1, .slice a1 n1 k1]) (by simp [results, Tryz.results102, go_sem, q0, q1]) rfl ?_
    exact ⟨⟨_, _, _, _, rfl, HD.out.1⟩, HD.out.2⟩
  · have HC := rcmp_any _ _ y.natAbs z.natAbs w0 (hn.below hb0) (hn2.below hb0)
    have HN := hide (hn.below hb0)
    have HN2 := hide (hn2.below hb0)
    have HK0 := hide h0
    have HK1 := hide h1'
    clear h1 h2 hn hn2 hb hb2 hb0 h0 h1' hx0
    by_cases hle : z.natAbs ≤ y.natAbs
    · obtain ⟨cc, hcc, hc0⟩ : ∃ cc : Int, cmpN y.natAbs z.natAbs = cc ∧ 0 ≤ cc := ⟨_, rfl, by unfold cmpN; rw [if_neg (by omega)]; split <;> omega⟩
      rw [hcc] at HC
      clear hcc
      have hz9 := zz_sub false (x := y.natAbs) (y := z.natAbs) (by omega)
      rw [show (!false) = true from rfl, ← hz, ← hz2] at hz9
      have HEQ : Hid (zz false (y.natAbs - z.natAbs) = y + z) := hide hz9.symm
      have HMK := hide (fun (w1 : World) (v : Value) (hv : Num w1 v (y.natAbs - z.natAbs)) => rmake1_ok false v _ w1 hv)
      have HLE := hide hle
      clear hz hz2 hz9 hle
      go_enter Tryz.func102, Tryz.ntmps102
      go_wp2_with fail
      refine HC.mono ?_
      rintro e ws ⟨rfl, hs⟩
      have hbs : Below w0.heap.size w0 ws := hs.below _
      have hbw := HB0.out.trans (hbs.mono HB0.out.size)
      have HM := rsub_any _ _ y.natAbs z.natAbs ws.drew (HN.out.below hbs).drew6 (HN2.out.below hbs).drew6 (by have := HLE.out; omega) hf1
      have HXD := hide (show ws.drew.heap[w.heap.size + 2]? = some (.cells #[.bool false, .slice none 0 0] 43) from block_upW hbs.drew HX0.out)
      obtain ⟨d0, d1⟩ := duo (show ws.drew.heap[w.heap.size]? = some (.cells #[.bool false, .slice a n k] 43) from block_upW hbs.drew HK0.out)
      obtain ⟨d2, d3⟩ := duo (show ws.drew.heap[w.heap.size + 1]? = some (.cells #[.bool true, .slice a2 n2 k2] 43) from block_upW hbs.drew HK1.out)
      obtain ⟨f0, f1⟩ := duo (block_upW hbs HK0.out)
      obtain ⟨f2, f3⟩ := duo (block_upW hbs HK1.out)
      clear HB0
      have HB0 := hide hbw
      clear hbs hs HC hbw c0 c1 c2 c3
      go_wp2
      go_region_held3 (fun w' => w'.cell? ⟨w.heap.size, 0, none⟩ = some (.bool false) ∧ w'.cell? ⟨w.heap.size, 1, none⟩ = some (.slice a n k) ∧ w'.cell? ⟨w.heap.size + 1, 0, none⟩ = some (.bool true) ∧ w'.cell? ⟨w.heap.size + 1, 1, none⟩ = some (.slice a2 n2 k2)) (go_keep) (first
        | (go_at_call 126; refine HM.mono ?_; rintro e' w1 ⟨⟨v1, rfl, N1⟩, hb1⟩; have x0 := cell_up6 hb1 d0; have x1 := cell_up6 hb1 d1; have x2 := cell_up6 hb1 d2; have x3 := cell_up6 hb1 d3)
        | (go_at_call 88; refine (HMK.out w1 _ N1).mono ?_; rintro e' w2 ⟨⟨b1, a1, n1, k1, rfl, hzn⟩, hb2⟩; have y0 := cell_up6 hb2 x0; have y1 := cell_up6 hb2 x1; have y2 := cell_up6 hb2 x2; have y3 := cell_up6 hb2 x3; have hz4 := block_upW hb2 (block_upW hb1 HXD.out); have hf4 := duof hz4; obtain ⟨t0, t1⟩ := duo hz4))
      have hb1' := below_undrew6 hb1
      rw [HEQ.out] at hzn
      have HZN := hide hzn
      have HBX := hide hz4
      have HBE := hide (HB0.out.trans ((hb1'.trans (hb2.mono hb1'.size)).mono HB0.out.size))
      have R5 := duo_all HBX.out (a' := .bool b1) (b' := .slice a1 n1 k1)
      have HD := hide (And.intro (HZN.out.duo (p1 := b1) (r1 := .slice a1 n1 k1) HBX.out) (below_duo HBE.out (g := w.heap.size + 2) (u0 := .bool b1) (u1 := .slice a1 n1 k1) (by omega)))
      clear hso hso2 hf4 t0 t1 y0 y1 y2 y3 x0 x1 x2 x3 hz4 N1 hb1 hb1' hb2 hzn
      generalize (w2.setCell ⟨w.heap.size + 2, 0, none⟩ (.bool b1)).setCell ⟨w.heap.size + 2, 1, none⟩ (.slice a1 n1 k1) = w5 at *
      obtain ⟨q0, q1⟩ := duo R5
      go_wp2
      refine bodyPost_ret (v := .agg #[.bool b1, .slice a1 n1 k1]) (by simp [results, Tryz.results102, go_sem, q0, q1]) rfl ?_
      exact ⟨⟨_, _, _, _, rfl, HD.out.1⟩, HD.out.2⟩
    · rw [cmpN_lt (by omega)] at HC
      have hz9 := zz_sub2 false (x := y.natAbs) (y := z.natAbs) (by omega)
      rw [show (!false) = true from rfl, ← hz, ← hz2] at hz9
      have HEQ : Hid (zz true (z.natAbs - y.natAbs) = y + z) := hide hz9.symm
      have HMK := hide (fun (w1 : World) (v : Value) (hv : Num w1 v (z.natAbs - y.natAbs)) => rmake1_ok true v _ w1 hv)
      have HLE := hide hle
      clear hz hz2 hz9 hle
      go_enter Tryz.func102, Tryz.ntmps102
      go_wp2_with fail
      refine HC.mono ?_
      rintro e ws ⟨rfl, hs⟩
      have hbs : Below w0.heap.size w0 ws := hs.below _
      have hbw := HB0.out.trans (hbs.mono HB0.out.size)
      have HM := rsub_any _ _ z.natAbs y.natAbs ws.drew (HN2.out.below hbs).drew6 (HN.out.below hbs).drew6 (by have := HLE.out; omega) hf2
      have HXD := hide (show ws.drew.heap[w.heap.size + 2]? = some (.cells #[.bool false, .slice none 0 0] 43) from block_upW hbs.drew HX0.out)
      obtain ⟨d0, d1⟩ := duo (show ws.drew.heap[w.heap.size]? = some (.cells #[.bool false, .slice a n k] 43) from block_upW hbs.drew HK0.out)
      obtain ⟨d2, d3⟩ := duo (show ws.drew.heap[w.heap.size + 1]? = some (.cells #[.bool true, .slice a2 n2 k2] 43) from block_upW hbs.drew HK1.out)
      obtain ⟨f0, f1⟩ := duo (block_upW hbs HK0.out)
      obtain ⟨f2, f3⟩ := duo (block_upW hbs HK1.out)
      clear HB0
      have HB0 := hide hbw
      clear hbs hs HC hbw c0 c1 c2 c3
      go_wp2
      go_region_held3 (fun w' => w'.cell? ⟨w.heap.size, 0, none⟩ = some (.bool false) ∧ w'.cell? ⟨w.heap.size, 1, none⟩ = some (.slice a n k) ∧ w'.cell? ⟨w.heap.size + 1, 0, none⟩ = some (.bool true) ∧ w'.cell? ⟨w.heap.size + 1, 1, none⟩ = some (.slice a2 n2 k2)) (go_keep) (first
        | (go_at_call 126; refine HM.mono ?_; rintro e' w1 ⟨⟨v1, rfl, N1⟩, hb1⟩; have x0 := cell_up6 hb1 d0; have x1 := cell_up6 hb1 d1; have x2 := cell_up6 hb1 d2; have x3 := cell_up6 hb1 d3)
        | (go_at_call 88; refine (HMK.out w1 _ N1).mono ?_; rintro e' w2 ⟨⟨b1, a1, n1, k1, rfl, hzn⟩, hb2⟩; have y0 := cell_up6 hb2 x0; have y1 := cell_up6 hb2 x1; have y2 := cell_up6 hb2 x2; have y3 := cell_up6 hb2 x3; have hz4 := block_upW hb2 (block_upW hb1 HXD.out); have hf4 := duof hz4; obtain ⟨t0, t1⟩ := duo hz4))
      have hb1' := below_undrew6 hb1
      rw [HEQ.out] at hzn
      have HZN := hide hzn
      have HBX := hide hz4
      have HBE := hide (HB0.out.trans ((hb1'.trans (hb2.mono hb1'.size)).mono HB0.out.size))
      have R5 := duo_all HBX.out (a' := .bool b1) (b' := .slice a1 n1 k1)
      have HD := hide (And.intro (HZN.out.duo (p1 := b1) (r1 := .slice a1 n1 k1) HBX.out) (below_duo HBE.out (g := w.heap.size + 2) (u0 := .bool b1) (u1 := .slice a1 n1 k1) (by omega)))
      clear hso hso2 hf4 t0 t1 y0 y1 y2 y3 x0 x1 x2 x3 hz4 N1 hb1 hb1' hb2 hzn
      generalize (w2.setCell ⟨w.heap.size + 2, 0, none⟩ (.bool b1)).setCell ⟨w.heap.size + 2, 1, none⟩ (.slice a1 n1 k1) = w5 at *
      obtain ⟨q0, q1⟩ := duo R5
      go_wp2
      refine bodyPost_ret (v := .agg #[.bool b1, .slice a1 n1 k1]) (by simp [results, Tryz.results102, go_sem, q0, q1]) rfl ?_
      exact ⟨⟨_, _, _, _, rfl, HD.out.1⟩, HD.out.2⟩
  · have HC := rcmp_any _ _ y.natAbs z.natAbs w0 (hn.below hb0) (hn2.below hb0)
    have HN := hide (hn.below hb0)
    have HN2 := hide (hn2.below hb0)
    have HK0 := hide h0
    have HK1 := hide h1'
    clear h1 h2 hn hn2 hb hb2 hb0 h0 h1' hx0
    by_cases hle : z.natAbs ≤ y.natAbs
    · obtain ⟨cc, hcc, hc0⟩ : ∃ cc : Int, cmpN y.natAbs z.natAbs = cc ∧ 0 ≤ cc := ⟨_, rfl, by unfold cmpN; rw [if_neg (by omega)]; split <;> omega⟩
      rw [hcc] at HC
      clear hcc
      have hz9 := zz_sub true (x := y.natAbs) (y := z.natAbs) (by omega)
      rw [show (!true) = false from rfl, ← hz, ← hz2] at hz9
      have HEQ : Hid (zz true (y.natAbs - z.natAbs) = y + z) := hide hz9.symm
      have HMK := hide (fun (w1 : World) (v : Value) (hv : Num w1 v (y.natAbs - z.natAbs)) => rmake1_ok true v _ w1 hv)
      have HLE := hide hle
      clear hz hz2 hz9 hle
      go_enter Tryz.func102, Tryz.ntmps102
      go_wp2_with fail
      refine HC.mono ?_
      rintro e ws ⟨rfl, hs⟩
      have hbs : Below w0.heap.size w0 ws := hs.below _
      have hbw := HB0.out.trans (hbs.mono HB0.out.size)
      have HM := rsub_any _ _ y.natAbs z.natAbs ws.drew (HN.out.below hbs).drew6 (HN2.out.below hbs).drew6 (by have := HLE.out; omega) hf1
      have HXD := hide (show ws.drew.heap[w.heap.size + 2]? = some (.cells #[.bool false, .slice none 0 0] 43) from block_upW hbs.drew HX0.out)
      obtain ⟨d0, d1⟩ := duo (show ws.drew.heap[w.heap.size]? = some (.cells #[.bool true, .slice a n k] 43) from block_upW hbs.drew HK0.out)
      obtain ⟨d2, d3⟩ := duo (show ws.drew.heap[w.heap.size + 1]? = some (.cells #[.bool false, .slice a2 n2 k2] 43) from block_upW hbs.drew HK1.out)
      obtain ⟨f0, f1⟩ := duo (block_upW hbs HK0.out)
      obtain ⟨f2, f3⟩ := duo (block_upW hbs HK1.out)
      clear HB0
      have HB0 := hide hbw
      clear hbs hs HC hbw c0 c1 c2 c3
      go_wp2
      go_region_held3 (fun w' => w'.cell? ⟨w.heap.size, 0, none⟩ = some (.bool true) ∧ w'.cell? ⟨w.heap.size, 1, none⟩ = some (.slice a n k) ∧ w'.cell? ⟨w.heap.size + 1, 0, none⟩ = some (.bool false) ∧ w'.cell? ⟨w.heap.size + 1, 1, none⟩ = some (.slice a2 n2 k2)) (go_keep) (first
        | (go_at_call 126; refine HM.mono ?_; rintro e' w1 ⟨⟨v1, rfl, N1⟩, hb1⟩; have x0 := cell_up6 hb1 d0; have x1 := cell_up6 hb1 d1; have x2 := cell_up6 hb1 d2; have x3 := cell_up6 hb1 d3)
        | (go_at_call 88; refine (HMK.out w1 _ N1).mono ?_; rintro e' w2 ⟨⟨b1, a1, n1, k1, rfl, hzn⟩, hb2⟩; have y0 := cell_up6 hb2 x0; have y1 := cell_up6 hb2 x1; have y2 := cell_up6 hb2 x2; have y3 := cell_up6 hb2 x3; have hz4 := block_upW hb2 (block_upW hb1 HXD.out); have hf4 := duof hz4; obtain ⟨t0, t1⟩ := duo hz4))
      have hb1' := below_undrew6 hb1
      rw [HEQ.out] at hzn
      have HZN := hide hzn
      have HBX := hide hz4
      have HBE := hide (HB0.out.trans ((hb1'.trans (hb2.mono hb1'.size)).mono HB0.out.size))
      have R5 := duo_all HBX.out (a' := .bool b1) (b' := .slice a1 n1 k1)
      have HD := hide (And.intro (HZN.out.duo (p1 := b1) (r1 := .slice a1 n1 k1) HBX.out) (below_duo HBE.out (g := w.heap.size + 2) (u0 := .bool b1) (u1 := .slice a1 n1 k1) (by omega)))
      clear hso hso2 hf4 t0 t1 y0 y1 y2 y3 x0 x1 x2 x3 hz4 N1 hb1 hb1' hb2 hzn
      generalize (w2.setCell ⟨w.heap.size + 2, 0, none⟩ (.bool b1)).setCell ⟨w.heap.size + 2, 1, none⟩ (.slice a1 n1 k1) = w5 at *
      obtain ⟨q0, q1⟩ := duo R5
      go_wp2
      refine bodyPost_ret (v := .agg #[.bool b1, .slice a1 n1 k1]) (by simp [results, Tryz.results102, go_sem, q0, q1]) rfl ?_
      exact ⟨⟨_, _, _, _, rfl, HD.out.1⟩, HD.out.2⟩
    · rw [cmpN_lt (by omega)] at HC
      have hz9 := zz_sub2 true (x := y.natAbs) (y := z.natAbs) (by omega)
      rw [show (!true) = false from rfl, ← hz, ← hz2] at hz9
      have HEQ : Hid (zz false (z.natAbs - y.natAbs) = y + z) := hide hz9.symm
      have HMK := hide (fun (w1 : World) (v : Value) (hv : Num w1 v (z.natAbs - y.natAbs)) => rmake1_ok false v _ w1 hv)
      have HLE := hide hle
      clear hz hz2 hz9 hle
      go_enter Tryz.func102, Tryz.ntmps102
      go_wp2_with fail
      refine HC.mono ?_
      rintro e ws ⟨rfl, hs⟩
      have hbs : Below w0.heap.size w0 ws := hs.below _
      have hbw := HB0.out.trans (hbs.mono HB0.out.size)
      have HM := rsub_any _ _ z.natAbs y.natAbs ws.drew (HN2.out.below hbs).drew6 (HN.out.below hbs).drew6 (by have := HLE.out; omega) hf2
      have HXD := hide (show ws.drew.heap[w.heap.size + 2]? = some (.cells #[.bool false, .slice none 0 0] 43) from block_upW hbs.drew HX0.out)
      obtain ⟨d0, d1⟩ := duo (show ws.drew.heap[w.heap.size]? = some (.cells #[.bool true, .slice a n k] 43) from block_upW hbs.drew HK0.out)
      obtain ⟨d2, d3⟩ := duo (show ws.drew.heap[w.heap.size + 1]? = some (.cells #[.bool false, .slice a2 n2 k2] 43) from block_upW hbs.drew HK1.out)
      obtain ⟨f0, f1⟩ := duo (block_upW hbs HK0.out)
      obtain ⟨f2, f3⟩ := duo (block_upW hbs HK1.out)
      clear HB0
      have HB0 := hide hbw
      clear hbs hs HC hbw c0 c1 c2 c3
      go_wp2
      go_region_held3 (fun w' => w'.cell? ⟨w.heap.size, 0, none⟩ = some (.bool true) ∧ w'.cell? ⟨w.heap.size, 1, none⟩ = some (.slice a n k) ∧ w'.cell? ⟨w.heap.size + 1, 0, none⟩ = some (.bool false) ∧ w'.cell? ⟨w.heap.size + 1, 1, none⟩ = some (.slice a2 n2 k2)) (go_keep) (first
        | (go_at_call 126; refine HM.mono ?_; rintro e' w1 ⟨⟨v1, rfl, N1⟩, hb1⟩; have x0 := cell_up6 hb1 d0; have x1 := cell_up6 hb1 d1; have x2 := cell_up6 hb1 d2; have x3 := cell_up6 hb1 d3)
        | (go_at_call 88; refine (HMK.out w1 _ N1).mono ?_; rintro e' w2 ⟨⟨b1, a1, n1, k1, rfl, hzn⟩, hb2⟩; have y0 := cell_up6 hb2 x0; have y1 := cell_up6 hb2 x1; have y2 := cell_up6 hb2 x2; have y3 := cell_up6 hb2 x3; have hz4 := block_upW hb2 (block_upW hb1 HXD.out); have hf4 := duof hz4; obtain ⟨t0, t1⟩ := duo hz4))
      have hb1' := below_undrew6 hb1
      rw [HEQ.out] at hzn
      have HZN := hide hzn
      have HBX := hide hz4
      have HBE := hide (HB0.out.trans ((hb1'.trans (hb2.mono hb1'.size)).mono HB0.out.size))
      have R5 := duo_all HBX.out (a' := .bool b1) (b' := .slice a1 n1 k1)
      have HD := hide (And.intro (HZN.out.duo (p1 := b1) (r1 := .slice a1 n1 k1) HBX.out) (below_duo HBE.out (g := w.heap.size + 2) (u0 := .bool b1) (u1 := .slice a1 n1 k1) (by omega)))
      clear hso hso2 hf4 t0 t1 y0 y1 y2 y3 x0 x1 x2 x3 hz4 N1 hb1 hb1' hb2 hzn
      generalize (w2.setCell ⟨w.heap.size + 2, 0, none⟩ (.bool b1)).setCell ⟨w.heap.size + 2, 1, none⟩ (.slice a1 n1 k1) = w5 at *
      obtain ⟨q0, q1⟩ := duo R5
      go_wp2
      refine bodyPost_ret (v := .agg #[.bool b1, .slice a1 n1 k1]) (by simp [results, Tryz.results102, go_sem, q0, q1]) rfl ?_
      exact ⟨⟨_, _, _, _, rfl, HD.out.1⟩, HD.out.2⟩
  · have HM := radd_any _ _ y.natAbs z.natAbs w0.drew (hn.below hb0).drew6 (hn2.below hb0).drew6 hf1 hf2
    have HEQ : Hid (zz true (y.natAbs + z.natAbs) = y + z) := by
      refine hide ?_
      rw [← zz_add, ← hz, ← hz2]
    have HMK := hide (fun (w1 : World) (v : Value) (hv : Num w1 v (y.natAbs + z.natAbs)) => rmake1_ok true v _ w1 hv)
    have HXD := hide (show w0.drew.heap[w.heap.size + 2]? = some (.cells #[.bool false, .slice none 0 0] 43) from hx0)
    obtain ⟨d0, d1⟩ := duo (show w0.drew.heap[w.heap.size]? = some (.cells #[.bool true, .slice a n k] 43) from h0)
    obtain ⟨d2, d3⟩ := duo (show w0.drew.heap[w.heap.size + 1]? = some (.cells #[.bool true, .slice a2 n2 k2] 43) from h1')
    clear h1 h2 hn hn2 hb hb2 hz hz2 hb0 h0 h1' hx0
    go_enter Tryz.func102, Tryz.ntmps102
    go_wp2
    go_region_held3 (fun w' => w'.cell? ⟨w.heap.size, 0, none⟩ = some (.bool true) ∧ w'.cell? ⟨w.heap.size, 1, none⟩ = some (.slice a n k) ∧ w'.cell? ⟨w.heap.size + 1, 0, none⟩ = some (.bool true) ∧ w'.cell? ⟨w.heap.size + 1, 1, none⟩ = some (.slice a2 n2 k2)) (go_keep) (first
      | (go_at_call 125; refine HM.mono ?_; rintro e' w1 ⟨⟨v1, rfl, N1⟩, hb1⟩; have x0 := cell_up6 hb1 d0; have x1 := cell_up6 hb1 d1; have x2 := cell_up6 hb1 d2; have x3 := cell_up6 hb1 d3)
      | (go_at_call 88; refine (HMK.out w1 _ N1).mono ?_; rintro e' w2 ⟨⟨b1, a1, n1, k1, rfl, hzn⟩, hb2⟩; have y0 := cell_up6 hb2 x0; have y1 := cell_up6 hb2 x1; have y2 := cell_up6 hb2 x2; have y3 := cell_up6 hb2 x3; have hz4 := block_upW hb2 (block_upW hb1 HXD.out); have hf4 := duof hz4; obtain ⟨t0, t1⟩ := duo hz4))
    have hb1' := below_undrew6 hb1
    rw [HEQ.out] at hzn
    have HZN := hide hzn
    have HBX := hide hz4
    have HBE := hide (HB0.out.trans ((hb1'.trans (hb2.mono hb1'.size)).mono HB0.out.size))
    have R5 := duo_all HBX.out (a' := .bool b1) (b' := .slice a1 n1 k1)
    have HD := hide (And.intro (HZN.out.duo (p1 := b1) (r1 := .slice a1 n1 k1) HBX.out) (below_duo HBE.out (g := w.heap.size + 2) (u0 := .bool b1) (u1 := .slice a1 n1 k1) (by omega)))
    clear hso hso2 hf4 t0 t1 y0 y1 y2 y3 x0 x1 x2 x3 hz4 N1 hb1 hb1' hb2 hzn
    generalize (w2.setCell ⟨w.heap.size + 2, 0, none⟩ (.bool b1)).setCell ⟨w.heap.size + 2, 1, none⟩ (.slice a1 n1 k1) = w5 at *
    obtain ⟨q0, q1⟩ := duo R5
    go_wp2
    refine bodyPost_ret (v := .agg #[.bool b1, .slice a1 n1 k1]) (by simp [results, Tryz.results102, go_sem, q0, q1]) rfl ?_
    exact ⟨⟨_, _, _, _, rfl, HD.out.1⟩, HD.out.2⟩

set_option maxRecDepth 20000 in
set_option maxHeartbeats 2000000 in
theorem rzsub_any (v1 v2 : Value) (y z : Int) (w : World) (h1 : Zn w v1 y) (h2 : Zn w v2 z) (hf1 : blen y.natAbs ≤ 1125899906840000) (hf2 : blen z.natAbs ≤ 1125899906840000) :
    Calls Tryz.prog 105 #[v1, v2] w (ZnDone w (y - z)) := by
  obtain ⟨b, a, n, k, rfl, hb, hn, hz⟩ := h1.parts
  obtain ⟨b2, a2, n2, k2, rfl, hb2, hn2, hz2⟩ := h2.parts
  obtain ⟨w0, hw0, hb0, h0, h1', hx0⟩ := enter3 w (.cells #[.bool b, .slice a n k] 43) (.cells #[.bool b2, .slice a2 n2 k2] 43) (.cells #[.bool false, .slice none 0 0] 43)
  obtain ⟨c0, c1⟩ := duo h0
  obtain ⟨c2, c3⟩ := duo h1'
  have HB0 := hide hb0
  have HX0 := hide hx0
  have hso : ∀ (W : World) (k : Nat) (u : Value) (k' : Nat), (W.setCell ⟨w.heap.size + 2, k, none⟩ u).cell? ⟨w.heap.size, k', none⟩ = W.cell? ⟨w.heap.size, k', none⟩ := fun W k u k' => cell_otherW (by omega)
  have hso2 : ∀ (W : World) (k : Nat) (u : Value) (k' : Nat), (W.setCell ⟨w.heap.size + 2, k, none⟩ u).cell? ⟨w.heap.size + 1, k', none⟩ = W.cell? ⟨w.heap.size + 1, k', none⟩ := fun W k u k' => cell_otherW (by omega)
  have HM := rzneg_any _ z w0.drew (h2.below hb0).drew6
  have HZ1 := hide (h1.below hb0).drew6
  have HEQ : Hid (y + -z = y - z) := hide (by omega)
  have HMK := hide (fun (w1 : World) (v : Value) (hb1 : Below w0.drew.heap.size w0.drew w1) (hv : Zn w1 v (-z)) => rzadd_any _ v y (-z) w1 (HZ1.out.below hb1) hv hf1 (by rw [Int.natAbs_neg]; exact hf2))
  have HXD := hide (show w0.drew.heap[w.heap.size + 2]? = some (.cells #[.bool false, .slice none 0 0] 43) from hx0)
  obtain ⟨d0, d1⟩ := duo (show w0.drew.heap[w.heap.size]? = some (.cells #[.bool b, .slice a n k] 43) from h0)
  obtain ⟨d2, d3⟩ := duo (show w0.drew.heap[w.heap.size + 1]? = some (.cells #[.bool b2, .slice a2 n2 k2] 43) from h1')
  clear h1 h2 hn hn2 hb hb2 hz hz2 hb0 h0 h1' hx0
  go_enter Tryz.func105, Tryz.ntmps105
  go_wp2
  go_region_held3 (fun w' => w'.cell? ⟨w.heap.size, 0, none⟩ = some (.bool b) ∧ w'.cell? ⟨w.heap.size, 1, none⟩ = some (.slice a n k) ∧ w'.cell? ⟨w.heap.size + 1, 0, none⟩ = some (.bool b2) ∧ w'.cell? ⟨w.heap.size + 1, 1, none⟩ = some (.slice a2 n2 k2)) (go_keep) (first
    | (go_at_call 74; refine HM.mono ?_; rintro e' w1 ⟨⟨b9, a9, n9, k9, rfl, N1⟩, hb1⟩; have x0 := cell_up6 hb1 d0; have x1 := cell_up6 hb1 d1; have x2 := cell_up6 hb1 d2; have x3 := cell_up6 hb1 d3)
    | (go_at_call 102; refine (HMK.out w1 _ hb1 N1).mono ?_; rintro e' w2 ⟨⟨b1, a1, n1, k1, rfl, hzn⟩, hb2⟩; have y0 := cell_up6 hb2 x0; have y1 := cell_up6 hb2 x1; have y2 := cell_up6 hb2 x2; have y3 := cell_up6 hb2 x3; have hz4 := block_upW hb2 (block_upW hb1 HXD.out); have hf4 := duof hz4; obtain ⟨t0, t1⟩ := duo hz4))
  have hb1' := below_undrew6 hb1
  rw [HEQ.out] at hzn
  have HZN := hide hzn
  have HBX := hide hz4
  have HBE := hide (HB0.out.trans ((hb1'.trans (hb2.mono hb1'.size)).mono HB0.out.size))
  have R5 := duo_all HBX.out (a' := .bool b1) (b' := .slice a1 n1 k1)
  have HD := hide (And.intro (HZN.out.duo (p1 := b1) (r1 := .slice a1 n1 k1) HBX.out) (below_duo HBE.out (g := w.heap.size + 2) (u0 := .bool b1) (u1 := .slice a1 n1 k1) (by omega)))
  clear hso hso2 hf4 t0 t1 y0 y1 y2 y3 x0 x1 x2 x3 hz4 N1 hb1 hb1' hb2 hzn
  generalize (w2.setCell ⟨w.heap.size + 2, 0, none⟩ (.bool b1)).setCell ⟨w.heap.size + 2, 1, none⟩ (.slice a1 n1 k1) = w5 at *
  obtain ⟨q0, q1⟩ := duo R5
  go_wp2
  refine bodyPost_ret (v := .agg #[.bool b1, .slice a1 n1 k1]) (by simp [results, Tryz.results105, go_sem, q0, q1]) rfl ?_
  exact ⟨⟨_, _, _, _, rfl, HD.out.1⟩, HD.out.2⟩

end Go.Proofs.YtppkhhbhnhijpaaGreatDoor

/- The document's Int; what the laws of whole numbers use: num, of, in, lent, alike. -/
namespace Go.Proofs.YtppkhhbhnhijpaaGreatDoor
open Go.RowKit
open Lm
attribute [local go_sem ↓] Go.wp_at_zero Go.wp_at_succ

set_option maxHeartbeats 1000000 in
theorem rzint_any (n : Int) (w : World) (h1 : -9223372036854775808 ≤ n) (h2 : n ≤ 9223372036854775807) :
    Calls Tryz.prog 93 #[.int .i64 n] w (ZnDone w n) := by
  obtain ⟨w0, hw0, hb0, hx0⟩ := enter1 w (.cells #[.bool false, .slice none 0 0] 43)
  have HB0 := hide hb0
  have HX0 := hide hx0
  by_cases hn : n < 0
  · obtain ⟨x, hx, hx2⟩ : ∃ x : Nat, n = -(x : Int) ∧ x < 18446744073709551616 := ⟨n.natAbs, by omega, by omega⟩
    have q1 : IntKind.i64.wrap (n + 1) = n + 1 := by rw [IntKind.wrap_i64]; omega
    have q2 : IntKind.i64.wrap (-(n + 1)) = -(n + 1) := by rw [IntKind.wrap_i64]; omega
    have q3 : IntKind.u64.wrap (-(n + 1)) = -(n + 1) := by rw [IntKind.wrap_u64]; omega
    have q4 : IntKind.u64.wrap (-(n + 1) + 1) = (x : Int) := by rw [IntKind.wrap_u64]; omega
    obtain ⟨w6, hw6, hb6, hx6⟩ := enter1 w0 (.cells #[.int .u64 x] 108)
    have hblk : Blk w6 w0.heap.size [x] := hx6
    have A6 := Ans.of_blk (base := w0.heap.size) (zs := [x]) (Nat.le_refl _) hblk (by simp) (by simp) (by simp) (by intro z hz; simp at hz; omega)
    have HO := of_any (.slice (some ⟨w0.heap.size, 0, none⟩) 1 1) [x] w6 (A6.arg (by simp)) (by simp)
    rw [show val [x] = x from by simp [val]] at HO
    have HB6 := hide hb6
    have ez : zz true x = n := by simp [zz]; omega
    have HEZ := hide ez
    clear hb0 hx0 hb6 hx6 hblk A6 hx ez
    go_enter Tryz.func93, Tryz.ntmps93
    go_wp2_with fail
    refine HO.mono ?_
    rintro e w1 ⟨⟨v1, rfl, hn1⟩, hb1⟩
    have HM := rmake1_ok true v1 x w1 hn1
    rw [HEZ.out] at HM
    have HW1 := hide (HB6.out.trans (hb1.mono HB6.out.size))
    obtain ⟨a2, n2, k2, rfl⟩ := hn1.sl
    clear hn1 hb1 HO
    go_wp2_with fail
    refine HM.mono ?_
    rintro e w2 ⟨⟨b1, a1, n1, k1, rfl, hzn⟩, hb2⟩
    have HZN := hide hzn
    have HW := hide (HW1.out.trans (hb2.mono HW1.out.size))
    clear hzn hb2 HM hw0 hw6
    have hbx := block_upW HW.out HX0.out
    have hf1 := duof hbx
    obtain ⟨l0, l1⟩ := duo hbx
    have HBX := hide hbx
    have HBE := hide (HB0.out.trans (HW.out.mono HB0.out.size))
    clear hbx
    go_wp2
    have R5 := duo_all HBX.out (a' := .bool b1) (b' := .slice a1 n1 k1)
    have HD := hide (And.intro (HZN.out.duo (p1 := b1) (r1 := .slice a1 n1 k1) HBX.out) (below_duo HBE.out (g := w.heap.size) (u0 := .bool b1) (u1 := .slice a1 n1 k1) (by omega)))
    generalize (w2.setCell ⟨w.heap.size, 0, none⟩ (.bool b1)).setCell ⟨w.heap.size, 1, none⟩ (.slice a1 n1 k1) = w5 at *
    obtain ⟨q0, q1⟩ := duo R5
    refine bodyPost_ret (v := .agg #[.bool b1, .slice a1 n1 k1]) (by simp [results, Tryz.results93, go_sem, q0, q1]) rfl ?_
    exact ⟨⟨_, _, _, _, rfl, HD.out.1⟩, HD.out.2⟩
  · obtain ⟨x, hx, hx2⟩ : ∃ x : Nat, n = (x : Int) ∧ x < 9223372036854775808 := ⟨n.natAbs, by omega, by omega⟩
    subst hx
    have HO := rint_all x w0 hx2
    have ez : zz false x = (x : Int) := by simp [zz]
    have HEZ := hide ez
    clear hb0 hx0 ez
    go_enter Tryz.func93, Tryz.ntmps93
    go_wp2_with fail
    refine HO.mono ?_
    rintro e w1 ⟨⟨v1, rfl, hn1⟩, hb1⟩
    have HM := rmake1_ok false v1 x w1 hn1
    rw [HEZ.out] at HM
    have HW1 := hide hb1
    obtain ⟨a2, n2, k2, rfl⟩ := hn1.sl
    clear hn1 hb1 HO
    go_wp2_with fail
    refine HM.mono ?_
    rintro e w2 ⟨⟨b1, a1, n1, k1, rfl, hzn⟩, hb2⟩
    have HZN := hide hzn
    have HW := hide (HW1.out.trans (hb2.mono HW1.out.size))
    clear hzn hb2 HM hw0
    have hbx := block_upW HW.out HX0.out
    have hf1 := duof hbx
    obtain ⟨l0, l1⟩ := duo hbx
    have HBX := hide hbx
    have HBE := hide (HB0.out.trans (HW.out.mono HB0.out.size))
    clear hbx
    go_wp2
    have R5 := duo_all HBX.out (a' := .bool b1) (b' := .slice a1 n1 k1)
    have HD := hide (And.intro (HZN.out.duo (p1 := b1) (r1 := .slice a1 n1 k1) HBX.out) (below_duo HBE.out (g := w.heap.size) (u0 := .bool b1) (u1 := .slice a1 n1 k1) (by omega)))
    generalize (w2.setCell ⟨w.heap.size, 0, none⟩ (.bool b1)).setCell ⟨w.heap.size, 1, none⟩ (.slice a1 n1 k1) = w5 at *
    obtain ⟨q0, q1⟩ := duo R5
    refine bodyPost_ret (v := .agg #[.bool b1, .slice a1 n1 k1]) (by simp [results, Tryz.results93, go_sem, q0, q1]) rfl ?_
    exact ⟨⟨_, _, _, _, rfl, HD.out.1⟩, HD.out.2⟩

end Go.Proofs.YtppkhhbhnhijpaaGreatDoor
