/- Package whole: signs, and answers with a sign. -/
import Derived.Test.YtppkhhbhnhijpaaGreatDoorQB
import Derived.Test.YtppkhhbhnhijpaaGreatDoorQJ
import Derived.Handy
import Derived.Test.YtppkhhbhnhijpaaGreatDoorQG
namespace Go.Proofs.YtppkhhbhnhijpaaGreatDoor
open Go.RowKit
open Lm
attribute [local go_sem ↓] Go.wp_at_zero Go.wp_at_succ

/-- What a sign and a size say. -/
def zz (b : Bool) (x : Nat) : Int := if b then -(x : Int) else (x : Int)

theorem zz_abs (b : Bool) (x : Nat) : (zz b x).natAbs = x := by cases b <;> simp [zz]
theorem zz_neg (b : Bool) (x : Nat) : zz (!b) x = -(zz b x) := by cases b <;> simp [zz]
theorem zz_zero (b : Bool) : zz b 0 = 0 := by cases b <;> simp [zz]
theorem zz_self (z : Int) : zz (decide (z < 0)) z.natAbs = z := by
  unfold zz
  by_cases h : z < 0
  · rw [if_pos (by simpa using h)]; omega
  · rw [if_neg (by simpa using h)]; omega

theorem norm_zero {rs : List Nat} (ht : tr rs = rs) : 0 < rs.length ↔ val rs ≠ 0 := by
  constructor
  · intro h h0
    have := tr_len_lt rs 0 (by rw [h0]; simp)
    rw [ht] at this
    omega
  · intro h
    rcases Nat.eq_zero_or_pos rs.length with h0 | h0
    · rw [List.eq_nil_of_length_eq_zero h0] at h
      exact absurd rfl h
    · exact h0

theorem zz_sign {rs : List Nat} {x : Nat} (b : Bool) (ht : tr rs = rs) (hv : val rs = x) : (b && decide (0 < rs.length)) = decide (zz b x < 0) := by
  have h := norm_zero ht
  rw [hv] at h
  cases b
  · simp [zz]
  · simp only [Bool.true_and, zz, if_true]
    rw [decide_eq_decide]
    omega

/-- A whole number z that was answered, or refused. -/
def ZR (w : World) (base : Nat) (b : Bool) (va : Value) (c z : Int) : Prop :=
  ∃ rs, Ans w base va rs ∧ ((c = 0 ∧ b = decide (z < 0) ∧ val rs = z.natAbs ∧ tr rs = rs ∧ blen z.natAbs ≤ 67108864) ∨ (c = 3 ∧ b = false ∧ va = .slice none 0 0 ∧ rs = [] ∧ 67108864 < blen z.natAbs))

/-- What a call answers whose number is z. -/
def ZRes (w : World) (base : Nat) (e : Ending) (z : Int) : Prop := ∃ b a n k c, e = .returned (.tuple #[.agg #[.bool b, .slice a n k], .int .i64 c]) ∧ ZR w base b (.slice a n k) c z

theorem ZR.below {w w' : World} {base : Nat} {b : Bool} {va : Value} {c z : Int} (h : ZR w base b va c z) (hb : Below w.heap.size w w') : ZR w' base b va c z := by
  obtain ⟨rs, h1, h2⟩ := h
  exact ⟨rs, h1.below hb, h2⟩

theorem ZR.base {w : World} {base base' : Nat} {b : Bool} {va : Value} {c z : Int} (h : ZR w base b va c z) (hb : base' ≤ base) : ZR w base' b va c z := by
  obtain ⟨rs, h1, h2⟩ := h
  exact ⟨rs, h1.base hb, h2⟩

theorem enter1 (w : World) (o1 : Obj) : ∃ w0, w.alloc o1 = w0 ∧ Below w.heap.size w w0 ∧ w0.heap[w.heap.size]? = some o1 := ⟨_, rfl, (Below.refl _ _).alloc (Nat.le_refl _) _, heap_alloc_new ..⟩

theorem enter2 (w : World) (o1 o2 : Obj) : ∃ w0, (w.alloc o1).alloc o2 = w0 ∧ Below w.heap.size w w0 ∧ w0.heap[w.heap.size]? = some o1 ∧ w0.heap[w.heap.size + 1]? = some o2 := by
  obtain ⟨w1, h1, b1, c1⟩ := enter1 w o1
  obtain ⟨w2, h2, b2, c2⟩ := enter1 w1 o2
  have hs : w1.heap.size = w.heap.size + 1 := by rw [← h1]; exact World.size_alloc _ _
  refine ⟨w2, by rw [h1]; exact h2, b1.trans (b2.mono b1.size), ?_, by rw [← hs]; exact c2⟩
  rw [b2.block w.heap.size (lt_of_block c1)]; exact c1

theorem enter3 (w : World) (o1 o2 o3 : Obj) : ∃ w0, ((w.alloc o1).alloc o2).alloc o3 = w0 ∧ Below w.heap.size w w0 ∧ w0.heap[w.heap.size]? = some o1 ∧ w0.heap[w.heap.size + 1]? = some o2 ∧ w0.heap[w.heap.size + 2]? = some o3 := by
  obtain ⟨w1, h1, b1, c1, c2⟩ := enter2 w o1 o2
  obtain ⟨w2, h2, b2, c3⟩ := enter1 w1 o3
  have hs : w1.heap.size = w.heap.size + 2 := by rw [← h1, World.size_alloc, World.size_alloc]
  refine ⟨w2, by rw [h1]; exact h2, b1.trans (b2.mono b1.size), ?_, ?_, by rw [← hs]; exact c3⟩
  · rw [b2.block _ (lt_of_block c1)]; exact c1
  · rw [b2.block _ (lt_of_block c2)]; exact c2

theorem block_upW {w w' : World} {g : Nat} {x : Obj} (hb : Below w.heap.size w w') (h : w.heap[g]? = some x) : w'.heap[g]? = some x := by
  rw [hb.block g (lt_of_block h)]; exact h

theorem duo {w : World} {h : Nat} {a b : Value} {t : TypeId} (e : w.heap[h]? = some (.cells #[a, b] t)) : w.cell? ⟨h, 0, none⟩ = some a ∧ w.cell? ⟨h, 1, none⟩ = some b := ⟨by simp [World.cell?, e], by simp [World.cell?, e]⟩

theorem below_one6 (w : World) (o : Obj) : Below w.heap.size w (w.alloc o) := (Below.refl _ _).alloc (Nat.le_refl _) _

theorem blen_zeroW (x : Nat) : blen x = 0 ↔ x = 0 := by
  have h := blen_le_iff x 0
  rw [Nat.pow_zero] at h
  omega

theorem wisZero_any (v : Value) (X : List Nat) (w : World) (hA : Arg w v X) :
    Calls Tryz.prog 136 #[v] w fun e w' => e = .returned (.bool (decide (val X = 0))) ∧ w' = w := by
  have L := length_val v X w hA
  obtain ⟨a, c, rfl, _, _, _⟩ := hA.form
  have hz := blen_zeroW (val X)
  clear hA
  generalize blen (val X) = l at *
  by_cases h0 : l = 0
  · have h2 : ((l : Int) == 0) = true := by rw [beq_iff_eq]; omega
    rw [decide_eq_true (hz.1 h0)]
    go_enter Tryz.func136, Tryz.ntmps136
    go_wp2_with fail
    refine L.mono ?_
    rintro e wn ⟨rfl, hw⟩; rw [hw]; clear hw wn L
    go_wp2
    go_ret
    exact ⟨rfl, rfl⟩
  · have h1 : ¬ val X = 0 := fun h => h0 (hz.2 h)
    have h2 : ((l : Int) == 0) = false := by rw [beq_eq_false_iff_ne]; omega
    rw [decide_eq_false h1]
    go_enter Tryz.func136, Tryz.ntmps136
    go_wp2_with fail
    refine L.mono ?_
    rintro e wn ⟨rfl, hw⟩; rw [hw]; clear hw wn L
    go_wp2
    go_ret
    exact ⟨rfl, rfl⟩

/-- Its sign as an int. -/
def sg (b : Bool) (x : Nat) : Int := if x = 0 then 0 else if b then -1 else 1

theorem sg_sign (b : Bool) (x : Nat) : sg b x = (zz b x).sign := by
  unfold sg zz
  by_cases h : x = 0
  · subst h; cases b <;> rfl
  · rw [if_neg h]
    cases b
    · simp only [Bool.false_eq_true, if_false]
      exact (Int.sign_eq_one_of_pos (by omega)).symm
    · simp only [if_true]
      exact (Int.sign_eq_neg_one_of_neg (by omega)).symm

set_option maxHeartbeats 1000000 in
theorem wsign_any (b : Bool) (v : Value) (X : List Nat) (w : World) (hA : Arg w v X) :
    Calls Tryz.prog 119 #[.agg #[.bool b, v]] w fun e w' => e = .returned (.int .i64 (sg b (val X))) ∧ Below w.heap.size w w' := by
  obtain ⟨a, c, rfl, _, _, _⟩ := hA.form
  obtain ⟨w0, hw0⟩ : ∃ w0, w.alloc (.cells #[.bool b, .slice a X.length c] 29) = w0 := ⟨_, rfl⟩
  have hb0 : Below w.heap.size w w0 := by rw [← hw0]; exact below_one6 _ _
  have h0 : w0.heap[w.heap.size]? = some (.cells #[.bool b, .slice a X.length c] 29) := by rw [← hw0]; exact heap_alloc_new ..
  obtain ⟨k0, k1⟩ := duo h0
  have HZ := wisZero_any _ X w0 (hA.below hb0)
  have HB := hide hb0
  unfold sg
  clear hA h0 hb0
  by_cases hx : val X = 0
  · rw [if_pos hx]
    rw [decide_eq_true hx] at HZ
    go_enter Tryz.func119, Tryz.ntmps119
    go_wp2_with fail
    refine HZ.mono ?_
    rintro e wn ⟨rfl, hw⟩; rw [hw]; clear hw wn HZ
    go_wp2
    go_ret
    exact ⟨rfl, HB.out⟩
  · rw [if_neg hx]
    rw [decide_eq_false hx] at HZ
    cases b
    · go_enter Tryz.func119, Tryz.ntmps119
      go_wp2_with fail
      refine HZ.mono ?_
      rintro e wn ⟨rfl, hw⟩; rw [hw]; clear hw wn HZ
      go_wp2
      go_ret
      exact ⟨rfl, HB.out⟩
    · go_enter Tryz.func119, Tryz.ntmps119
      go_wp2_with fail
      refine HZ.mono ?_
      rintro e wn ⟨rfl, hw⟩; rw [hw]; clear hw wn HZ
      go_wp2
      go_ret
      exact ⟨rfl, HB.out⟩

theorem wisNeg_any (b : Bool) (v : Value) (X : List Nat) (w : World) (hA : Arg w v X) :
    Calls Tryz.prog 171 #[.agg #[.bool b, v]] w fun e w' => e = .returned (.bool (decide (zz b (val X) < 0))) ∧ Below w.heap.size w w' := by
  obtain ⟨a, c, rfl, _, _, _⟩ := hA.form
  obtain ⟨w0, hw0⟩ : ∃ w0, w.alloc (.cells #[.bool b, .slice a X.length c] 29) = w0 := ⟨_, rfl⟩
  have hb0 : Below w.heap.size w w0 := by rw [← hw0]; exact below_one6 _ _
  have h0 : w0.heap[w.heap.size]? = some (.cells #[.bool b, .slice a X.length c] 29) := by rw [← hw0]; exact heap_alloc_new ..
  obtain ⟨k0, k1⟩ := duo h0
  have HZ := wsign_any b _ X w0 (hA.below hb0)
  have HB := hide hb0
  rw [sg_sign] at HZ
  generalize zz b (val X) = z at *
  clear hA h0 hb0
  by_cases hz : z < 0
  · rw [Int.sign_eq_neg_one_of_neg hz] at HZ
    rw [decide_eq_true hz]
    go_enter Tryz.func171, Tryz.ntmps171
    go_wp2_with fail
    refine HZ.mono ?_
    rintro e w1 ⟨rfl, hb1⟩
    have HB1 := hide (HB.out.trans (hb1.mono HB.out.size))
    clear hb1 HZ
    go_wp2
    go_ret
    exact ⟨rfl, HB1.out⟩
  · have h1 : ¬ z.sign < 0 := fun h => hz (Int.sign_neg_iff.1 h)
    rw [decide_eq_false hz]
    generalize z.sign = s at *
    have hds : decide (s < 0) = false := decide_eq_false h1
    go_enter Tryz.func171, Tryz.ntmps171
    go_wp2_with fail
    refine HZ.mono ?_
    rintro e w1 ⟨rfl, hb1⟩
    have HB1 := hide (HB.out.trans (hb1.mono HB.out.size))
    clear hb1 HZ
    go_wp2
    go_ret
    exact ⟨rfl, HB1.out⟩

theorem wsigned_any (b : Bool) (v : Value) (rs : List Nat) (base : Nat) (w : World) (hA : Ans w base v rs) :
    Calls Tryz.prog 148 #[.bool b, v] w fun e w' => e = .returned (.agg #[.bool (b && decide (0 < rs.length)), v]) ∧ Below w.heap.size w w' := by
  obtain ⟨a, c, rfl⟩ : ∃ a c, v = .slice a rs.length c := by
    rcases hA.form with ⟨rfl, h⟩ | ⟨g, cap, rfl, _⟩
    · exact ⟨none, 0, by rw [h]; rfl⟩
    · exact ⟨_, _, rfl⟩
  clear hA
  generalize rs.length = n at *
  cases b
  · have HB := hide (below_one6 w (.cells #[.bool false, .slice a n c] 29))
    go_enter Tryz.func148, Tryz.ntmps148
    go_wp2
    go_returns
    exact ⟨rfl, HB.out⟩
  · by_cases hn : 0 < n
    · have i1 : (0 : Int) < (n : Int) := by omega
      have HB := hide (below_one6 w (.cells #[.bool true, .slice a n c] 29))
      rw [decide_eq_true hn]
      go_enter Tryz.func148, Tryz.ntmps148
      go_wp2
      go_returns
      exact ⟨rfl, HB.out⟩
    · have i1 : ¬ (0 : Int) < (n : Int) := by omega
      have HB := hide (below_one6 w (.cells #[.bool false, .slice a n c] 29))
      rw [decide_eq_false hn]
      go_enter Tryz.func148, Tryz.ntmps148
      go_wp2
      go_returns
      exact ⟨rfl, HB.out⟩

theorem zz_add (b : Bool) (x y : Nat) : zz b x + zz b y = zz b (x + y) := by cases b <;> simp [zz] <;> omega
theorem zz_sub (b : Bool) {x y : Nat} (h : y ≤ x) : zz b x + zz (!b) y = zz b (x - y) := by cases b <;> simp [zz] <;> omega
theorem zz_sub2 (b : Bool) {x y : Nat} (h : x ≤ y) : zz b x + zz (!b) y = zz (!b) (y - x) := by cases b <;> simp [zz] <;> omega
theorem zz_mul (b t : Bool) (x y : Nat) : zz b x * zz t y = zz (b != t) (x * y) := by
  cases b <;> cases t <;> simp [zz, Int.mul_neg, Int.neg_mul]

end Go.Proofs.YtppkhhbhnhijpaaGreatDoor

/- Package whole: answered, Make, Neg, Abs, sums, products. -/
namespace Go.Proofs.YtppkhhbhnhijpaaGreatDoor
open Go.RowKit
open Lm
attribute [local go_sem ↓] Go.wp_at_zero Go.wp_at_succ

theorem duof {w : World} {h : Nat} {a b : Value} {t : TypeId} (e : w.heap[h]? = some (.cells #[a, b] t)) : ∀ k, w.frozen? ⟨h, k, none⟩ = false := fun k => by simp [World.frozen?, e]

theorem duo_all {w : World} {h : Nat} {a b a' b' : Value} {t : TypeId} (e : w.heap[h]? = some (.cells #[a, b] t)) : ((w.setCell ⟨h, 0, none⟩ a').setCell ⟨h, 1, none⟩ b').heap[h]? = some (.cells #[a', b'] t) :=
  box_modify (box_modify e a') b'

theorem below_duo {B : Nat} {w0 w : World} {g : Nat} {u0 u1 : Value} (h : Below B w0 w) (hg : B ≤ g) : Below B w0 ((w.setCell ⟨g, 0, none⟩ u0).setCell ⟨g, 1, none⟩ u1) :=
  (h.setCell (p := ⟨g, 0, none⟩) hg u0).setCell (p := ⟨g, 1, none⟩) hg u1

theorem Ans.off1 {w : World} {base g o : Nat} {v u : Value} {zs : List Nat} {vs : Array Value} (h : Ans w base v zs) (hl : w.heap[g]? = some (.cells vs 29)) : Ans (w.setCell ⟨g, o, none⟩ u) base v zs := by
  have hne : v.ownBlock ≠ some g := by
    obtain ⟨_, h2⟩ := h.own
    rcases h2 with ⟨rfl, _⟩ | ⟨g', cap, cur, rfl, _, hh, _⟩
    · simp [Value.ownBlock]
    · intro e
      simp [Value.ownBlock] at e
      subst e
      rw [hl] at hh
      simp at hh
  exact ⟨ownsRow_setCell_other h.own hne _, h.limbs⟩

theorem Ans.duo {w : World} {base g : Nat} {v u0 u1 a b : Value} {zs : List Nat} (h : Ans w base v zs) (hl : w.heap[g]? = some (.cells #[a, b] 29)) : Ans ((w.setCell ⟨g, 0, none⟩ u0).setCell ⟨g, 1, none⟩ u1) base v zs :=
  (h.off1 hl).off1 (box_modify hl u0)

theorem ZR.duo {w : World} {base g : Nat} {b : Bool} {va u0 u1 a1 b1 : Value} {c z : Int} (h : ZR w base b va c z) (hl : w.heap[g]? = some (.cells #[a1, b1] 29)) : ZR ((w.setCell ⟨g, 0, none⟩ u0).setCell ⟨g, 1, none⟩ u1) base b va c z := by
  obtain ⟨rs, h1, h2⟩ := h
  exact ⟨rs, h1.duo hl, h2⟩

theorem Ans.shape {w : World} {base : Nat} {v : Value} {rs : List Nat} (h : Ans w base v rs) : ∃ a c, v = .slice a rs.length c := by
  rcases h.form with ⟨rfl, h⟩ | ⟨g, cap, rfl, _⟩
  · exact ⟨none, 0, by simp_all⟩
  · exact ⟨_, _, rfl⟩

set_option maxHeartbeats 1000000 in
theorem wanswered_any (b : Bool) (v : Value) (rs : List Nat) (c : Int) (s base : Nat) (w : World) (hA : Ans w base v rs)
    (h : (c = 0 ∧ val rs = s ∧ tr rs = rs ∧ blen s ≤ 67108864) ∨ (c = 3 ∧ rs = [] ∧ 67108864 < blen s)) :
    Calls Tryz.prog 161 #[.bool b, v, .int .i64 c] w fun e w' => ZRes w' base e (zz b s) ∧ Below w.heap.size w w' := by
  obtain ⟨w0, hw0⟩ : ∃ w0, w.alloc (.cells #[.bool false, .slice none 0 0] 29) = w0 := ⟨_, rfl⟩
  have hb0 : Below w.heap.size w w0 := by rw [← hw0]; exact below_one6 _ _
  have h0 : w0.heap[w.heap.size]? = some (.cells #[.bool false, .slice none 0 0] 29) := by rw [← hw0]; exact heap_alloc_new ..
  have hf0 := duof h0
  obtain ⟨k0, k1⟩ := duo h0
  rcases h with ⟨rfl, h1, h2, h3⟩ | ⟨rfl, h1, h2⟩
  · have HS := wsigned_any b v rs base w0 (hA.below hb0)
    have hsg := zz_sign b h2 h1
    rw [hsg] at HS
    have hv : val rs = (zz b s).natAbs := by rw [zz_abs]; exact h1
    have hbl : blen (zz b s).natAbs ≤ 67108864 := by rw [zz_abs]; exact h3
    obtain ⟨a, cc, rfl⟩ := hA.shape
    have HA := hide (hA.below hb0)
    have HV := hide (And.intro hv (And.intro h2 hbl))
    have HB0 := hide hb0
    have H0 := hide h0
    generalize zz b s = z at *
    clear hA hb0 h0 h1 h2 h3 hsg hv hbl
    go_enter Tryz.func161, Tryz.ntmps161
    go_wp2_with fail
    refine HS.mono ?_
    rintro e w1 ⟨rfl, hb1⟩
    have h1 : w1.heap[w.heap.size]? = some (.cells #[.bool false, .slice none 0 0] 29) := by rw [hb1.block w.heap.size (lt_of_block H0.out)]; exact H0.out
    have HBX := hide h1
    have HAN := hide (HA.out.below hb1)
    have HBE := hide (HB0.out.trans (hb1.mono HB0.out.size))
    have hf1 := duof h1
    obtain ⟨l0, l1⟩ := duo h1
    clear h1 hb1 HS k0 k1 hf0 hw0 H0 HA
    go_wp2
    have R5 := duo_all HBX.out (a' := .bool (decide (z < 0))) (b' := .slice a rs.length cc)
    have HD := hide (And.intro (HAN.out.duo (u0 := .bool (decide (z < 0))) (u1 := .slice a rs.length cc) HBX.out) (below_duo HBE.out (g := w.heap.size) (u0 := .bool (decide (z < 0))) (u1 := .slice a rs.length cc) (Nat.le_refl _)))
    generalize (w1.setCell ⟨w.heap.size, 0, none⟩ (.bool (decide (z < 0)))).setCell ⟨w.heap.size, 1, none⟩ (.slice a rs.length cc) = w5 at *
    obtain ⟨q0, q1⟩ := duo R5
    refine bodyPost_ret (v := .tuple #[.agg #[.bool (decide (z < 0)), .slice a rs.length cc], .int .i64 0]) (by simp [results, Tryz.results161, go_sem, q0, q1]) rfl ?_
    exact ⟨⟨_, _, _, _, 0, rfl, rs, HD.out.1, .inl ⟨rfl, rfl, HV.out⟩⟩, HD.out.2⟩
  · subst h1
    obtain ⟨a, cc, rfl⟩ := hA.shape
    have hbl : 67108864 < blen (zz b s).natAbs := by rw [zz_abs]; exact h2
    have HB0 := hide hb0
    have HBX := hide h0
    have HV := hide hbl
    generalize zz b s = z at *
    clear hA hb0 h0 h2 hbl
    go_enter Tryz.func161, Tryz.ntmps161
    go_wp2
    have R5 := duo_all HBX.out (a' := .bool false) (b' := .slice none 0 0)
    have HD := hide (below_duo HB0.out (g := w.heap.size) (u0 := .bool false) (u1 := .slice none 0 0) (Nat.le_refl _))
    generalize (w0.setCell ⟨w.heap.size, 0, none⟩ (.bool false)).setCell ⟨w.heap.size, 1, none⟩ (.slice none 0 0) = w5 at *
    obtain ⟨q0, q1⟩ := duo R5
    refine bodyPost_ret (v := .tuple #[.agg #[.bool false, .slice none 0 0], .int .i64 3]) (by simp [results, Tryz.results161, go_sem, q0, q1]) rfl ?_
    exact ⟨⟨_, _, _, _, 3, rfl, [], Ans.nil _ _, .inr ⟨rfl, rfl, rfl, rfl, HV.out⟩⟩, HD.out⟩

theorem duo_other {w : World} {g h : Nat} {u0 u1 : Value} {x : Obj} (e : w.heap[h]? = some x) (hne : h ≠ g) : ((w.setCell ⟨g, 0, none⟩ u0).setCell ⟨g, 1, none⟩ u1).heap[h]? = some x := by
  rw [Below.heap_setCell _ _ _ _ hne, Below.heap_setCell _ _ _ _ hne]; exact e

end Go.Proofs.YtppkhhbhnhijpaaGreatDoor

/- Four boxes at the entry. -/
namespace Go.Proofs.YtppkhhbhnhijpaaGreatDoor
open Go.RowKit
open Lm

theorem enter4 (w : World) (o1 o2 o3 o4 : Obj) : ∃ w0, (((w.alloc o1).alloc o2).alloc o3).alloc o4 = w0 ∧ Below w.heap.size w w0 ∧ w0.heap[w.heap.size]? = some o1 ∧ w0.heap[w.heap.size + 1]? = some o2 ∧ w0.heap[w.heap.size + 2]? = some o3 ∧ w0.heap[w.heap.size + 3]? = some o4 := by
  obtain ⟨w1, h1, b1, c1, c2, c3⟩ := enter3 w o1 o2 o3
  obtain ⟨w2, h2, b2, c4⟩ := enter1 w1 o4
  have hs : w1.heap.size = w.heap.size + 3 := by rw [← h1, World.size_alloc, World.size_alloc, World.size_alloc]
  refine ⟨w2, by rw [h1]; exact h2, b1.trans (b2.mono b1.size), ?_, ?_, ?_, by rw [← hs]; exact c4⟩
  · rw [b2.block _ (lt_of_block c1)]; exact c1
  · rw [b2.block _ (lt_of_block c2)]; exact c2
  · rw [b2.block _ (lt_of_block c3)]; exact c3

theorem quad_below {B : Nat} {w0 w : World} {g : Nat} {u0 u1 u2 u3 : Value} (h : Below B w0 w) (hg : B ≤ g) : Below B w0 ((((w.setCell ⟨g, 0, none⟩ u0).setCell ⟨g, 1, none⟩ u1).setCell ⟨g + 1, 0, none⟩ u2).setCell ⟨g + 1, 1, none⟩ u3) :=
  below_duo (below_duo h hg) (by omega)

end Go.Proofs.YtppkhhbhnhijpaaGreatDoor

/- Package whole: Make, Neg, Abs, Add, Sub, Mul. -/
namespace Go.Proofs.YtppkhhbhnhijpaaGreatDoor
open Go.RowKit
open Lm
attribute [local go_sem ↓] Go.wp_at_zero Go.wp_at_succ

set_option maxHeartbeats 1000000 in
theorem wmake_any (b : Bool) (v : Value) (X : List Nat) (w : World) (hA : Arg w v X) (hf : X.length ≤ 17592186044416) :
    Calls Tryz.prog 130 #[.bool b, v] w fun e w' => ZRes w' w.heap.size e (zz b (val X)) ∧ Below w.heap.size w w' := by
  obtain ⟨w0, hw0, hb0, h0⟩ := enter1 w (.cells #[.bool false, .slice none 0 0] 29)
  have hf0 := duof h0
  obtain ⟨k0, k1⟩ := duo h0
  have L := length_val v X w0 (hA.below hb0)
  have HB0 := hide hb0
  have HX0 := hide h0
  have HA := hide hA
  obtain ⟨a, n, rfl, _, _, _⟩ := hA.form
  clear hA hb0 h0
  by_cases hbl : blen (val X) ≤ 67108864
  · have i1 : ¬ (67108864 : Int) < ((blen (val X) : Nat) : Int) := by omega
    have HN := nnorm_any _ X w0 (HA.out.below HB0.out) hf
    have HL := hide hbl
    generalize hl : blen (val X) = l at *
    clear hbl
    go_enter Tryz.func130, Tryz.ntmps130
    go_wp2_with fail
    refine L.mono ?_
    rintro e wn ⟨rfl, hw⟩; rw [hw]; clear hw wn L
    go_wp2_with fail
    refine HN.mono ?_
    rintro e w1 ⟨⟨v1, rfl, A1⟩, hb1⟩
    have HS := wsigned_any b v1 (tr X) _ w1 A1
    have hsg := zz_sign b (tr_tr X) (val_tr X)
    rw [hsg] at HS
    have hsh := A1.shape
    obtain ⟨a1, n1, rfl⟩ := hsh
    have HA1 := hide A1
    have HB1 := hide hb1
    clear A1 hb1 HN k0 k1 hf0 hsg
    go_wp2_with fail
    refine HS.mono ?_
    rintro e w2 ⟨rfl, hb2⟩
    have HW : Hid (Below w0.heap.size w0 w2) := hide (HB1.out.trans (hb2.mono HB1.out.size))
    have HAN := hide (HA1.out.below hb2)
    have hbx := block_upW HW.out HX0.out
    have hf1 := duof hbx
    obtain ⟨l0, l1⟩ := duo hbx
    have HBX := hide hbx
    have HBE := hide (HB0.out.trans (HW.out.mono HB0.out.size))
    clear hbx
    clear hb2 HS HA1
    go_wp2
    have R5 := duo_all HBX.out (a' := .bool (decide (zz b (val X) < 0))) (b' := .slice a1 (tr X).length n1)
    have HD := hide (And.intro (HAN.out.duo (u0 := .bool (decide (zz b (val X) < 0))) (u1 := .slice a1 (tr X).length n1) HBX.out) (below_duo HBE.out (g := w.heap.size) (u0 := .bool (decide (zz b (val X) < 0))) (u1 := .slice a1 (tr X).length n1) (Nat.le_refl _)))
    generalize (w2.setCell ⟨w.heap.size, 0, none⟩ (.bool (decide (zz b (val X) < 0)))).setCell ⟨w.heap.size, 1, none⟩ (.slice a1 (tr X).length n1) = w5 at *
    obtain ⟨q0, q1⟩ := duo R5
    refine bodyPost_ret (v := .tuple #[.agg #[.bool (decide (zz b (val X) < 0)), .slice a1 (tr X).length n1], .int .i64 0]) (by simp [results, Tryz.results130, go_sem, q0, q1]) rfl ?_
    exact ⟨⟨_, _, _, _, 0, rfl, tr X, HD.out.1.base HB0.out.size, .inl ⟨rfl, rfl, by rw [zz_abs, val_tr], tr_tr X, by rw [zz_abs, hl]; exact HL.out⟩⟩, HD.out.2⟩
  · have i1 : (67108864 : Int) < ((blen (val X) : Nat) : Int) := by omega
    have HL := hide hbl
    generalize hl : blen (val X) = l at *
    clear hbl
    go_enter Tryz.func130, Tryz.ntmps130
    go_wp2_with fail
    refine L.mono ?_
    rintro e wn ⟨rfl, hw⟩; rw [hw]; clear hw wn L
    go_wp2
    have R5 := duo_all HX0.out (a' := .bool false) (b' := .slice none 0 0)
    have HD := hide (below_duo HB0.out (g := w.heap.size) (u0 := .bool false) (u1 := .slice none 0 0) (Nat.le_refl _))
    generalize (w0.setCell ⟨w.heap.size, 0, none⟩ (.bool false)).setCell ⟨w.heap.size, 1, none⟩ (.slice none 0 0) = w5 at *
    obtain ⟨q0, q1⟩ := duo R5
    refine bodyPost_ret (v := .tuple #[.agg #[.bool false, .slice none 0 0], .int .i64 3]) (by simp [results, Tryz.results130, go_sem, q0, q1]) rfl ?_
    exact ⟨⟨_, _, _, _, 3, rfl, [], Ans.nil _ _, .inr ⟨rfl, rfl, rfl, rfl, by rw [zz_abs, hl]; have := HL.out; omega⟩⟩, HD.out⟩

end Go.Proofs.YtppkhhbhnhijpaaGreatDoor

/- Package whole: Make of what is too great, however long; and of any that has no noughts at the top. -/
namespace Go.Proofs.YtppkhhbhnhijpaaGreatDoor
open Go.RowKit
open Lm
attribute [local go_sem ↓] Go.wp_at_zero Go.wp_at_succ

set_option maxHeartbeats 1000000 in
theorem wmake_big (b : Bool) (v : Value) (X : List Nat) (w : World) (hA : Arg w v X) (hbl : ¬ blen (val X) ≤ 67108864) :
    Calls Tryz.prog 130 #[.bool b, v] w fun e w' => ZRes w' w.heap.size e (zz b (val X)) ∧ Below w.heap.size w w' := by
  obtain ⟨w0, hw0, hb0, h0⟩ := enter1 w (.cells #[.bool false, .slice none 0 0] 29)
  have hf0 := duof h0
  obtain ⟨k0, k1⟩ := duo h0
  have L := length_val v X w0 (hA.below hb0)
  have HB0 := hide hb0
  have HX0 := hide h0
  obtain ⟨a, n, rfl, _, _, _⟩ := hA.form
  clear hA hb0 h0
  have i1 : (67108864 : Int) < ((blen (val X) : Nat) : Int) := by omega
  have HL := hide hbl
  generalize hl : blen (val X) = l at *
  clear hbl
  go_enter Tryz.func130, Tryz.ntmps130
  go_wp2_with fail
  refine L.mono ?_
  rintro e wn ⟨rfl, hw⟩; rw [hw]; clear hw wn L
  go_wp2
  have R5 := duo_all HX0.out (a' := .bool false) (b' := .slice none 0 0)
  have HD := hide (below_duo HB0.out (g := w.heap.size) (u0 := .bool false) (u1 := .slice none 0 0) (Nat.le_refl _))
  generalize (w0.setCell ⟨w.heap.size, 0, none⟩ (.bool false)).setCell ⟨w.heap.size, 1, none⟩ (.slice none 0 0) = w5 at *
  obtain ⟨q0, q1⟩ := duo R5
  refine bodyPost_ret (v := .tuple #[.agg #[.bool false, .slice none 0 0], .int .i64 3]) (by simp [results, Tryz.results130, go_sem, q0, q1]) rfl ?_
  exact ⟨⟨_, _, _, _, 3, rfl, [], Ans.nil _ _, .inr ⟨rfl, rfl, rfl, rfl, by rw [zz_abs, hl]; have := HL.out; omega⟩⟩, HD.out⟩

theorem wmake_norm (b : Bool) (v : Value) (X : List Nat) (w : World) (hA : Arg w v X) (ht : tr X = X) :
    Calls Tryz.prog 130 #[.bool b, v] w fun e w' => ZRes w' w.heap.size e (zz b (val X)) ∧ Below w.heap.size w w' := by
  by_cases hbl : blen (val X) ≤ 67108864
  · exact wmake_any b v X w hA (by have := few_ofW ht rfl (n := 1048576) (by omega); omega)
  · exact wmake_big b v X w hA hbl

end Go.Proofs.YtppkhhbhnhijpaaGreatDoor

/- Package whole: Of, anyBig, the table of divisions. -/
namespace Go.Proofs.YtppkhhbhnhijpaaGreatDoor
open Go.RowKit
open Lm
attribute [local go_sem ↓] Go.wp_at_zero Go.wp_at_succ

/-- A number that was answered. -/
def ZA (w : World) (base : Nat) (b : Bool) (u : Value) (z : Int) : Prop := ∃ rs, Ans w base u rs ∧ b = decide (z < 0) ∧ val rs = z.natAbs ∧ tr rs = rs

theorem ZA.below {w w' : World} {base : Nat} {b : Bool} {u : Value} {z : Int} (h : ZA w base b u z) (hb : Below w.heap.size w w') : ZA w' base b u z := by
  obtain ⟨rs, h1, h2⟩ := h
  exact ⟨rs, h1.below hb, h2⟩

set_option maxHeartbeats 1000000 in
theorem wof_any (n : Int) (w : World) (h1 : -9223372036854775808 ≤ n) (h2 : n ≤ 9223372036854775807) :
    Calls Tryz.prog 172 #[.int .i64 n] w fun e w' => (∃ b a l k, e = .returned (.agg #[.bool b, .slice a l k]) ∧ ZA w' w.heap.size b (.slice a l k) n) ∧ Below w.heap.size w w' := by
  obtain ⟨w0, hw0, hb0, hx0⟩ := enter1 w (.cells #[.bool false, .slice none 0 0] 29)
  by_cases hn : n < 0
  · obtain ⟨m, hm⟩ : ∃ m, IntKind.i64.wrap (-n) = m := ⟨_, rfl⟩
    have hm2 : IntKind.u64.wrap m = ((n.natAbs : Nat) : Int) := by rw [← hm, IntKind.wrap_i64, IntKind.wrap_u64]; omega
    have hm3 : IntKind.u64.wrap ((n.natAbs : Nat) : Int) = ((n.natAbs : Nat) : Int) := by rw [IntKind.wrap_u64]; omega
    have HM := from_any n.natAbs w0 (by omega)
    have HB0 := hide hb0
    have HX0 := hide hx0
    clear hb0 hx0
    go_enter Tryz.func172, Tryz.ntmps172
    go_wp2_with fail
    refine HM.mono ?_
    rintro e w1 ⟨⟨v1, rfl, A1⟩, hb1⟩
    have HS := wsigned_any true v1 _ _ w1 A1
    rw [zz_sign true (tr_tr _) (val_tr _)] at HS
    have e1 : zz true (val [n.natAbs]) = n := by simp [zz, val]; omega
    rw [e1] at HS
    have hv : val (tr [n.natAbs]) = n.natAbs := by rw [val_tr]; simp [val]
    have ht := tr_tr [n.natAbs]
    generalize tr [n.natAbs] = rs at *
    obtain ⟨a1, k1, rfl⟩ := A1.shape
    have HA1 := hide A1
    have HW1 := hide hb1
    have HV := hide (And.intro hv ht)
    clear A1 hb1 HM e1 hv ht
    go_wp2_with fail
    refine HS.mono ?_
    rintro e w2 ⟨rfl, hb2⟩
    have HW := hide (HW1.out.trans (hb2.mono HW1.out.size))
    have HAN := hide ((HA1.out.below hb2).base HB0.out.size)
    have hbx := block_upW HW.out HX0.out
    have hf1 := duof hbx
    obtain ⟨l0, l1⟩ := duo hbx
    have HBX := hide hbx
    have HBE := hide (HB0.out.trans (HW.out.mono HB0.out.size))
    clear hbx hb2 HS hw0
    obtain ⟨ub, hub⟩ : ∃ ub, decide (n < 0) = ub := ⟨_, rfl⟩
    rw [hub]
    go_wp2
    have R5 := duo_all HBX.out (a' := .bool ub) (b' := .slice a1 rs.length k1)
    have HD := hide (And.intro (HAN.out.duo (u0 := .bool ub) (u1 := .slice a1 rs.length k1) HBX.out) (below_duo HBE.out (g := w.heap.size) (u0 := .bool ub) (u1 := .slice a1 rs.length k1) (Nat.le_refl _)))
    generalize (w2.setCell ⟨w.heap.size, 0, none⟩ (.bool ub)).setCell ⟨w.heap.size, 1, none⟩ (.slice a1 rs.length k1) = w5 at *
    obtain ⟨q0, q1⟩ := duo R5
    refine bodyPost_ret (v := .agg #[.bool ub, .slice a1 rs.length k1]) (by simp [results, Tryz.results172, go_sem, q0, q1]) rfl ?_
    exact ⟨⟨_, _, _, _, rfl, rs, HD.out.1, hub.symm, HV.out⟩, HD.out.2⟩
  · have hm2 : IntKind.u64.wrap n = ((n.natAbs : Nat) : Int) := by rw [IntKind.wrap_u64]; omega
    have hm3 : IntKind.u64.wrap ((n.natAbs : Nat) : Int) = ((n.natAbs : Nat) : Int) := by rw [IntKind.wrap_u64]; omega
    have HM := from_any n.natAbs w0 (by omega)
    have HB0 := hide hb0
    have HX0 := hide hx0
    clear hb0 hx0
    go_enter Tryz.func172, Tryz.ntmps172
    go_wp2_with fail
    refine HM.mono ?_
    rintro e w1 ⟨⟨v1, rfl, A1⟩, hb1⟩
    have HS := wsigned_any false v1 _ _ w1 A1
    rw [zz_sign false (tr_tr _) (val_tr _)] at HS
    have e1 : zz false (val [n.natAbs]) = n := by simp [zz, val]; omega
    rw [e1] at HS
    have hv : val (tr [n.natAbs]) = n.natAbs := by rw [val_tr]; simp [val]
    have ht := tr_tr [n.natAbs]
    generalize tr [n.natAbs] = rs at *
    obtain ⟨a1, k1, rfl⟩ := A1.shape
    have HA1 := hide A1
    have HW1 := hide hb1
    have HV := hide (And.intro hv ht)
    clear A1 hb1 HM e1 hv ht
    go_wp2_with fail
    refine HS.mono ?_
    rintro e w2 ⟨rfl, hb2⟩
    have HW := hide (HW1.out.trans (hb2.mono HW1.out.size))
    have HAN := hide ((HA1.out.below hb2).base HB0.out.size)
    have hbx := block_upW HW.out HX0.out
    have hf1 := duof hbx
    obtain ⟨l0, l1⟩ := duo hbx
    have HBX := hide hbx
    have HBE := hide (HB0.out.trans (HW.out.mono HB0.out.size))
    clear hbx hb2 HS hw0
    obtain ⟨ub, hub⟩ : ∃ ub, decide (n < 0) = ub := ⟨_, rfl⟩
    rw [hub]
    go_wp2
    have R5 := duo_all HBX.out (a' := .bool ub) (b' := .slice a1 rs.length k1)
    have HD := hide (And.intro (HAN.out.duo (u0 := .bool ub) (u1 := .slice a1 rs.length k1) HBX.out) (below_duo HBE.out (g := w.heap.size) (u0 := .bool ub) (u1 := .slice a1 rs.length k1) (Nat.le_refl _)))
    generalize (w2.setCell ⟨w.heap.size, 0, none⟩ (.bool ub)).setCell ⟨w.heap.size, 1, none⟩ (.slice a1 rs.length k1) = w5 at *
    obtain ⟨q0, q1⟩ := duo R5
    refine bodyPost_ret (v := .agg #[.bool ub, .slice a1 rs.length k1]) (by simp [results, Tryz.results172, go_sem, q0, q1]) rfl ?_
    exact ⟨⟨_, _, _, _, rfl, rs, HD.out.1, hub.symm, HV.out⟩, HD.out.2⟩

theorem run_store_fn {P : Program} (w : World) (a : Addr) (m : Mode) (f : Fn) (x y : Array Value) : (store a (.func f x y) m).run P w = stored P w a (.func f x y) m := run_store P w a _ m rfl

/-- What a division asks of a cut. -/
def cutV (q r l : Value) (bl ap : Bool) : Value := .agg #[q, r, l, .bool bl, .bool ap]

end Go.Proofs.YtppkhhbhnhijpaaGreatDoor

/- The document's whole numbers: make1, Of, Sign, Neg, Abs. -/
namespace Go.Proofs.YtppkhhbhnhijpaaGreatDoor
open Go.RowKit
open Lm
attribute [local go_sem ↓] Go.wp_at_zero Go.wp_at_succ

/-- The document's number z. -/
def Zn (w : World) (v : Value) (z : Int) : Prop := ∃ u, v = .agg #[.bool (decide (z < 0)), u] ∧ Num w u z.natAbs

theorem Zn.below {w w' : World} {v : Value} {z : Int} (h : Zn w v z) (hb : Below w.heap.size w w') : Zn w' v z := by
  obtain ⟨u, h1, h2⟩ := h
  exact ⟨u, h1, h2.below hb⟩

theorem Num.sl {w : World} {v : Value} {x : Nat} (h : Num w v x) : ∃ a n c, v = .slice a n c := by
  obtain ⟨ds, hA, _⟩ := h
  obtain ⟨a, c, e, _⟩ := hA.form
  exact ⟨a, _, c, e⟩

theorem zz_nat (b : Bool) (x : Nat) : (b && !(x == 0)) = decide (zz b x < 0) := by
  cases b
  · simp [zz]
  · simp only [Bool.true_and, zz, if_true]
    by_cases h : x = 0
    · subst h; rfl
    · have h1 : (x == 0) = false := by simpa using h
      rw [h1]
      exact (decide_eq_true (by omega)).symm

set_option maxHeartbeats 1000000 in
theorem rmake1_any (b : Bool) (u : Value) (x : Nat) (w : World) (h : Num w u x) :
    Calls Tryz.prog 88 #[.bool b, u] w fun e w' => (∃ v, e = .returned v ∧ Zn w' v (zz b x)) ∧ Below w.heap.size w w' := by
  obtain ⟨a, n, c, rfl⟩ := h.sl
  cases b
  · have HB := hide (below_one6 w (.cells #[.bool false, .slice a n c] 43))
    have HN := hide (h.below HB.out)
    clear h
    go_enter Tryz.func88, Tryz.ntmps88
    go_wp2
    go_returns
    exact ⟨⟨_, rfl, .slice a n c, by simp [zz], by rw [zz_abs]; exact HN.out⟩, HB.out⟩
  · obtain ⟨w0, hw0⟩ : ∃ w0, w.alloc (.cells #[.bool false, .slice none 0 0] 43) = w0 := ⟨_, rfl⟩
    have hb0 : Below w.heap.size w w0 := by rw [← hw0]; exact below_one6 _ _
    have h0 : w0.heap[w.heap.size]? = some (.cells #[.bool false, .slice none 0 0] 43) := by rw [← hw0]; exact heap_alloc_new ..
    have hf0 := duof h0
    obtain ⟨k0, k1⟩ := duo h0
    have HZ := zero_any _ x w0 (h.below hb0)
    obtain ⟨t, ht⟩ : ∃ t : Bool, (!(x == 0)) = t := ⟨_, rfl⟩
    have hzt := zz_nat true x
    rw [Bool.true_and, ht] at hzt
    have ht2 : (x == 0) = !t := by rw [← ht, Bool.not_not]
    rw [ht2] at HZ
    have HN := hide h
    have HB0 := hide hb0
    have HBX := hide h0
    have HZT := hide hzt
    clear h hb0 h0 ht ht2 hzt
    go_enter Tryz.func88, Tryz.ntmps88
    go_wp2_with fail
    refine HZ.mono ?_
    rintro e wn ⟨rfl, hw⟩; rw [hw]; clear hw wn HZ
    go_wp2
    have R5 := duo_all HBX.out (a' := .bool t) (b' := .slice a n c)
    have HD := hide (below_duo HB0.out (g := w.heap.size) (u0 := .bool t) (u1 := .slice a n c) (Nat.le_refl _))
    generalize (w0.setCell ⟨w.heap.size, 0, none⟩ (.bool t)).setCell ⟨w.heap.size, 1, none⟩ (.slice a n c) = w5 at *
    obtain ⟨q0, q1⟩ := duo R5
    refine bodyPost_ret (v := .agg #[.bool t, .slice a n c]) (by simp [results, Tryz.results88, go_sem, q0, q1]) rfl ?_
    exact ⟨⟨_, rfl, _, by rw [HZT.out], by rw [zz_abs]; exact HN.out.below HD.out⟩, HD.out⟩

/-- A struct is answered through the result's box. -/
theorem Zn.sl {w : World} {v : Value} {z : Int} (h : Zn w v z) : ∃ b a n k, v = .agg #[.bool b, .slice a n k] := by
  obtain ⟨u, h1, h2⟩ := h
  obtain ⟨a, n, k, rfl⟩ := h2.sl
  exact ⟨_, _, _, _, h1⟩

theorem cell_otherW {w : World} {g k g' k' : Nat} {u : Value} (h : g ≠ g') : (w.setCell ⟨g, k, none⟩ u).cell? ⟨g', k', none⟩ = w.cell? ⟨g', k', none⟩ := by
  simp only [World.cell?]
  rw [Below.heap_setCell _ _ _ _ (by exact Ne.symm h)]

theorem Lies.box {w : World} {ao : Option Addr} {zs : List Nat} {g o : Nat} {p : Bool} {a : Option Addr} {n c : Nat} {t : TypeId} {u : Value} (h : Lies w ao zs) (hl : w.heap[g]? = some (.cells #[.bool p, .slice a n c] t)) : Lies (w.setCell ⟨g, o, none⟩ u) ao zs := by
  rcases h with h | ⟨b, off, rfl, hc⟩
  · exact .inl h
  · rcases Nat.eq_zero_or_pos zs.length with h0 | h0
    · exact .inl (List.eq_nil_of_length_eq_zero h0)
    · refine .inr ⟨b, off, rfl, fun k hk => ?_⟩
      rw [cell_otherW]
      · exact hc k hk
      · rintro rfl
        have h1 := hc 0 h0
        rw [Nat.add_zero] at h1
        simp only [World.cell?, hl] at h1
        match off, h1 with
        | 0, h1 => simp at h1
        | 1, h1 => simp at h1
        | k + 2, h1 => simp at h1

theorem Arg.box {w : World} {v : Value} {zs : List Nat} {g o : Nat} {p : Bool} {a : Option Addr} {n c : Nat} {t : TypeId} {u : Value} (h : Arg w v zs) (hl : w.heap[g]? = some (.cells #[.bool p, .slice a n c] t)) : Arg (w.setCell ⟨g, o, none⟩ u) v zs := by
  obtain ⟨ao, cap, h1, h2, h3, h4⟩ := h.form
  exact ⟨⟨ao, cap, h1, h2, h3, h4.box hl⟩, h.limbs, h.few, h.nz⟩

theorem Arg.duo {w : World} {v : Value} {zs : List Nat} {g : Nat} {p : Bool} {a : Option Addr} {n c : Nat} {t : TypeId} {p1 : Bool} {r1 : Value} (h : Arg w v zs) (hl : w.heap[g]? = some (.cells #[.bool p, .slice a n c] t)) : Arg ((w.setCell ⟨g, 0, none⟩ (.bool p1)).setCell ⟨g, 1, none⟩ r1) v zs :=
  (h.box hl).box (box_modify hl (.bool p1))

theorem Num.duo {w : World} {v : Value} {x g : Nat} {p : Bool} {a : Option Addr} {n c : Nat} {t : TypeId} {p1 : Bool} {r1 : Value} (h : Num w v x) (hl : w.heap[g]? = some (.cells #[.bool p, .slice a n c] t)) : Num ((w.setCell ⟨g, 0, none⟩ (.bool p1)).setCell ⟨g, 1, none⟩ r1) v x := by
  obtain ⟨ds, hA, hr⟩ := h
  exact ⟨ds, hA.duo hl, hr⟩

theorem Zn.duo {w : World} {v : Value} {z : Int} {g : Nat} {p : Bool} {a : Option Addr} {n c : Nat} {t : TypeId} {p1 : Bool} {r1 : Value} (h : Zn w v z) (hl : w.heap[g]? = some (.cells #[.bool p, .slice a n c] t)) : Zn ((w.setCell ⟨g, 0, none⟩ (.bool p1)).setCell ⟨g, 1, none⟩ r1) v z := by
  obtain ⟨u, h1, h2⟩ := h
  exact ⟨u, h1, h2.duo hl⟩

/-- What a call answers whose number is z. -/
def ZnDone (w : World) (z : Int) (e : Ending) (w' : World) : Prop := (∃ b a n k, e = .returned (.agg #[.bool b, .slice a n k]) ∧ Zn w' (.agg #[.bool b, .slice a n k]) z) ∧ Below w.heap.size w w'

theorem rmake1_ok (b : Bool) (u : Value) (x : Nat) (w : World) (h : Num w u x) : Calls Tryz.prog 88 #[.bool b, u] w (ZnDone w (zz b x)) := by
  refine (rmake1_any b u x w h).mono ?_
  rintro e w' ⟨⟨v, rfl, hz⟩, hb⟩
  obtain ⟨b, a, n, k, rfl⟩ := hz.sl
  exact ⟨⟨b, a, n, k, rfl, hz⟩, hb⟩

set_option maxHeartbeats 1000000 in
theorem rzof_any (b : Bool) (v : Value) (X : List Nat) (w : World) (hA : Arg w v X) (hf : X.length ≤ 17592186044416) :
    Calls Tryz.prog 49 #[.bool b, v] w (ZnDone w (zz b (val X))) := by
  obtain ⟨a, n, rfl, _, _, _⟩ := hA.form
  obtain ⟨w0, hw0, hb0, hx0⟩ := enter1 w (.cells #[.bool false, .slice none 0 0] 43)
  have HO := of_any _ X w0 (hA.below hb0) hf
  have HB0 := hide hb0
  have HX0 := hide hx0
  clear hA hb0 hx0
  go_enter Tryz.func49, Tryz.ntmps49
  go_wp2_with fail
  refine HO.mono ?_
  rintro e w1 ⟨⟨v1, rfl, hn⟩, hb1⟩
  have HM := rmake1_ok b v1 (val X) w1 hn
  have HW1 := hide hb1
  obtain ⟨a2, n2, k2, rfl⟩ := hn.sl
  clear hn hb1 HO
  go_wp2_with fail
  refine HM.mono ?_
  rintro e w2 ⟨⟨b1, a1, n1, k1, rfl, hzn⟩, hb2⟩
  have HZN := hide hzn
  have HW := hide (HW1.out.trans (hb2.mono HW1.out.size))
  clear hzn hb2 HM hw0
  have hbx := block_upW HW.out HX0.out
  have hf1 := duof hbx
  obtain ⟨l0, l1⟩ := duo hbx
  have HBX := hide hbx
  have HBE := hide (HB0.out.trans (HW.out.mono HB0.out.size))
  clear hbx
  go_wp2
  have R5 := duo_all HBX.out (a' := .bool b1) (b' := .slice a1 n1 k1)
  have HD := hide (And.intro (HZN.out.duo (p1 := b1) (r1 := .slice a1 n1 k1) HBX.out) (below_duo HBE.out (g := w.heap.size) (u0 := .bool b1) (u1 := .slice a1 n1 k1) (by omega)))
  generalize (w2.setCell ⟨w.heap.size, 0, none⟩ (.bool b1)).setCell ⟨w.heap.size, 1, none⟩ (.slice a1 n1 k1) = w5 at *
  obtain ⟨q0, q1⟩ := duo R5
  refine bodyPost_ret (v := .agg #[.bool b1, .slice a1 n1 k1]) (by simp [results, Tryz.results49, go_sem, q0, q1]) rfl ?_
  exact ⟨⟨_, _, _, _, rfl, HD.out.1⟩, HD.out.2⟩

end Go.Proofs.YtppkhhbhnhijpaaGreatDoor
