/- Package whole: signs, and answers with a sign. -/
import Derived.Test.YtppblbhkghjphaaGreatDoorQB
import Derived.Test.YtppblbhkghjphaaGreatDoorQJ
import Derived.Handy
namespace Go.Proofs.YtppblbhkghjphaaGreatDoor
open Go.RowKit
open Lm
attribute [local go_sem ↓] Go.wp_at_zero Go.wp_at_succ

/-- What a sign and a size say. -/
def zz (b : Bool) (x : Nat) : Int := if b then -(x : Int) else (x : Int)

theorem zz_abs (b : Bool) (x : Nat) : (zz b x).natAbs = x := by cases b <;> simp [zz]
theorem zz_neg (b : Bool) (x : Nat) : zz (!b) x = -(zz b x) := by cases b <;> simp [zz]
theorem zz_zero (b : Bool) : zz b 0 = 0 := by cases b <;> simp [zz]
theorem zz_self (z : Int) : zz (decide (z < 0)) z.natAbs = z := by
  unfold zz
  by_cases h : z < 0
  · rw [if_pos (by simpa using h)]; omega
  · rw [if_neg (by simpa using h)]; omega

theorem norm_zero {rs : List Nat} (ht : tr rs = rs) : 0 < rs.length ↔ val rs ≠ 0 := by
  constructor
  · intro h h0
    have := tr_len_lt rs 0 (by rw [h0]; simp)
    rw [ht] at this
    omega
  · intro h
    rcases Nat.eq_zero_or_pos rs.length with h0 | h0
    · rw [List.eq_nil_of_length_eq_zero h0] at h
      exact absurd rfl h
    · exact h0

theorem zz_sign {rs : List Nat} {x : Nat} (b : Bool) (ht : tr rs = rs) (hv : val rs = x) : (b && decide (0 < rs.length)) = decide (zz b x < 0) := by
  have h := norm_zero ht
  rw [hv] at h
  cases b
  · simp [zz]
  · simp only [Bool.true_and, zz, if_true]
    rw [decide_eq_decide]
    omega

/-- A whole number z that was answered, or refused. -/
def ZR (w : World) (base : Nat) (b : Bool) (va : Value) (c z : Int) : Prop :=
  ∃ rs, Ans w base va rs ∧ ((c = 0 ∧ b = decide (z < 0) ∧ val rs = z.natAbs ∧ tr rs = rs ∧ blen z.natAbs ≤ 67108864) ∨ (c = 3 ∧ b = false ∧ va = .slice none 0 0 ∧ rs = [] ∧ 67108864 < blen z.natAbs))

/-- What a call answers whose number is z. -/
def ZRes (w : World) (base : Nat) (e : Ending) (z : Int) : Prop := ∃ b a n k c, e = .returned (.tuple #[.agg #[.bool b, .slice a n k], .int .i64 c]) ∧ ZR w base b (.slice a n k) c z

theorem ZR.below {w w' : World} {base : Nat} {b : Bool} {va : Value} {c z : Int} (h : ZR w base b va c z) (hb : Below w.heap.size w w') : ZR w' base b va c z := by
  obtain ⟨rs, h1, h2⟩ := h
  exact ⟨rs, h1.below hb, h2⟩

theorem ZR.base {w : World} {base base' : Nat} {b : Bool} {va : Value} {c z : Int} (h : ZR w base b va c z) (hb : base' ≤ base) : ZR w base' b va c z := by
  obtain ⟨rs, h1, h2⟩ := h
  exact ⟨rs, h1.base hb, h2⟩

theorem enter1 (w : World) (o1 : Obj) : ∃ w0, w.alloc o1 = w0 ∧ Below w.heap.size w w0 ∧ w0.heap[w.heap.size]? = some o1 := ⟨_, rfl, (Below.refl _ _).alloc (Nat.le_refl _) _, heap_alloc_new ..⟩

theorem enter2 (w : World) (o1 o2 : Obj) : ∃ w0, (w.alloc o1).alloc o2 = w0 ∧ Below w.heap.size w w0 ∧ w0.heap[w.heap.size]? = some o1 ∧ w0.heap[w.heap.size + 1]? = some o2 := by
  obtain ⟨w1, h1, b1, c1⟩ := enter1 w o1
  obtain ⟨w2, h2, b2, c2⟩ := enter1 w1 o2
  have hs : w1.heap.size = w.heap.size + 1 := by rw [← h1]; exact World.size_alloc _ _
  refine ⟨w2, by rw [h1]; exact h2, b1.trans (b2.mono b1.size), ?_, by rw [← hs]; exact c2⟩
  rw [b2.block w.heap.size (lt_of_block c1)]; exact c1

theorem enter3 (w : World) (o1 o2 o3 : Obj) : ∃ w0, ((w.alloc o1).alloc o2).alloc o3 = w0 ∧ Below w.heap.size w w0 ∧ w0.heap[w.heap.size]? = some o1 ∧ w0.heap[w.heap.size + 1]? = some o2 ∧ w0.heap[w.heap.size + 2]? = some o3 := by
  obtain ⟨w1, h1, b1, c1, c2⟩ := enter2 w o1 o2
  obtain ⟨w2, h2, b2, c3⟩ := enter1 w1 o3
  have hs : w1.heap.size = w.heap.size + 2 := by rw [← h1, World.size_alloc, World.size_alloc]
  refine ⟨w2, by rw [h1]; exact h2, b1.trans (b2.mono b1.size), ?_, ?_, by rw [← hs]; exact c3⟩
  · rw [b2.block _ (lt_of_block c1)]; exact c1
  · rw [b2.block _ (lt_of_block c2)]; exact c2

theorem block_upW {w w' : World} {g : Nat} {x : Obj} (hb : Below w.heap.size w w') (h : w.heap[g]? = some x) : w'.heap[g]? = some x := by
  rw [hb.block g (lt_of_block h)]; exact h

theorem duo {w : World} {h : Nat} {a b : Value} {t : TypeId} (e : w.heap[h]? = some (.cells #[a, b] t)) : w.cell? ⟨h, 0, none⟩ = some a ∧ w.cell? ⟨h, 1, none⟩ = some b := ⟨by simp [World.cell?, e], by simp [World.cell?, e]⟩

theorem below_one6 (w : World) (o : Obj) : Below w.heap.size w (w.alloc o) := (Below.refl _ _).alloc (Nat.le_refl _) _

theorem blen_zeroW (x : Nat) : blen x = 0 ↔ x = 0 := by
  have h := blen_le_iff x 0
  rw [Nat.pow_zero] at h
  omega

theorem wisZero_any (v : Value) (X : List Nat) (w : World) (hA : Arg w v X) :
    Calls Tryz.prog 108 #[v] w fun e w' => e = .returned (.bool (decide (val X = 0))) ∧ w' = w := by
  have L := length_val v X w hA
  obtain ⟨a, c, rfl, _, _, _⟩ := hA.form
  have hz := blen_zeroW (val X)
  clear hA
  generalize blen (val X) = l at *
  by_cases h0 : l = 0
  · have h2 : ((l : Int) == 0) = true := by rw [beq_iff_eq]; omega
    rw [decide_eq_true (hz.1 h0)]
    go_enter Tryz.func108, Tryz.ntmps108
    go_wp2_with fail
    refine L.mono ?_
    rintro e wn ⟨rfl, hw⟩; rw [hw]; clear hw wn L
    go_wp2
    go_ret
    exact ⟨rfl, rfl⟩
  · have h1 : ¬ val X = 0 := fun h => h0 (hz.2 h)
    have h2 : ((l : Int) == 0) = false := by rw [beq_eq_false_iff_ne]; omega
    rw [decide_eq_false h1]
    go_enter Tryz.func108, Tryz.ntmps108
    go_wp2_with fail
    refine L.mono ?_
    rintro e wn ⟨rfl, hw⟩; rw [hw]; clear hw wn L
    go_wp2
    go_ret
    exact ⟨rfl, rfl⟩

/-- Its sign as an int. -/
def sg (b : Bool) (x : Nat) : Int := if x = 0 then 0 else if b then -1 else 1

theorem sg_sign (b : Bool) (x : Nat) : sg b x = (zz b x).sign := by
  unfold sg zz
  by_cases h : x = 0
  · subst h; cases b <;> rfl
  · rw [if_neg h]
    cases b
    · simp only [Bool.false_eq_true, if_false]
      exact (Int.sign_eq_one_of_pos (by omega)).symm
    · simp only [if_true]
      exact (Int.sign_eq_neg_one_of_neg (by omega)).symm

set_option maxHeartbeats 1000000 in
theorem wsign_any (b : Bool) (v : Value) (X : List Nat) (w : World) (hA : Arg w v X) :
    Calls Tryz.prog 99 #[.agg #[.bool b, v]] w fun e w' => e = .returned (.int .i64 (sg b (val X))) ∧ Below w.heap.size w w' := by
  obtain ⟨a, c, rfl, _, _, _⟩ := hA.form
  obtain ⟨w0, hw0⟩ : ∃ w0, w.alloc (.cells #[.bool b, .slice a X.length c] 26) = w0 := ⟨_, rfl⟩
  have hb0 : Below w.heap.size w w0 := by rw [← hw0]; exact below_one6 _ _
  have h0 : w0.heap[w.heap.size]? = some (.cells #[.bool b, .slice a X.length c] 26) := by rw [← hw0]; exact heap_alloc_new ..
  obtain ⟨k0, k1⟩ := duo h0
  have HZ := wisZero_any _ X w0 (hA.below hb0)
  have HB := hide hb0
  unfold sg
  clear hA h0 hb0
  by_cases hx : val X = 0
  · rw [if_pos hx]
    rw [decide_eq_true hx] at HZ
    go_enter Tryz.func99, Tryz.ntmps99
    go_wp2_with fail
    refine HZ.mono ?_
    rintro e wn ⟨rfl, hw⟩; rw [hw]; clear hw wn HZ
    go_wp2
    go_ret
    exact ⟨rfl, HB.out⟩
  · rw [if_neg hx]
    rw [decide_eq_false hx] at HZ
    cases b
    · go_enter Tryz.func99, Tryz.ntmps99
      go_wp2_with fail
      refine HZ.mono ?_
      rintro e wn ⟨rfl, hw⟩; rw [hw]; clear hw wn HZ
      go_wp2
      go_ret
      exact ⟨rfl, HB.out⟩
    · go_enter Tryz.func99, Tryz.ntmps99
      go_wp2_with fail
      refine HZ.mono ?_
      rintro e wn ⟨rfl, hw⟩; rw [hw]; clear hw wn HZ
      go_wp2
      go_ret
      exact ⟨rfl, HB.out⟩

theorem zz_add (b : Bool) (x y : Nat) : zz b x + zz b y = zz b (x + y) := by cases b <;> simp [zz] <;> omega
theorem zz_sub (b : Bool) {x y : Nat} (h : y ≤ x) : zz b x + zz (!b) y = zz b (x - y) := by cases b <;> simp [zz] <;> omega
theorem zz_sub2 (b : Bool) {x y : Nat} (h : x ≤ y) : zz b x + zz (!b) y = zz (!b) (y - x) := by cases b <;> simp [zz] <;> omega
theorem zz_mul (b t : Bool) (x y : Nat) : zz b x * zz t y = zz (b != t) (x * y) := by
  cases b <;> cases t <;> simp [zz, Int.mul_neg, Int.neg_mul]

end Go.Proofs.YtppblbhkghjphaaGreatDoor

/- Package whole: answered, Make, Neg, Abs, sums, products. -/
namespace Go.Proofs.YtppblbhkghjphaaGreatDoor
open Go.RowKit
open Lm
attribute [local go_sem ↓] Go.wp_at_zero Go.wp_at_succ

theorem duof {w : World} {h : Nat} {a b : Value} {t : TypeId} (e : w.heap[h]? = some (.cells #[a, b] t)) : ∀ k, w.frozen? ⟨h, k, none⟩ = false := fun k => by simp [World.frozen?, e]

theorem duo_all {w : World} {h : Nat} {a b a' b' : Value} {t : TypeId} (e : w.heap[h]? = some (.cells #[a, b] t)) : ((w.setCell ⟨h, 0, none⟩ a').setCell ⟨h, 1, none⟩ b').heap[h]? = some (.cells #[a', b'] t) :=
  box_modify (box_modify e a') b'

theorem below_duo {B : Nat} {w0 w : World} {g : Nat} {u0 u1 : Value} (h : Below B w0 w) (hg : B ≤ g) : Below B w0 ((w.setCell ⟨g, 0, none⟩ u0).setCell ⟨g, 1, none⟩ u1) :=
  (h.setCell (p := ⟨g, 0, none⟩) hg u0).setCell (p := ⟨g, 1, none⟩) hg u1

theorem Ans.off1 {w : World} {base g o : Nat} {v u : Value} {zs : List Nat} {vs : Array Value} (h : Ans w base v zs) (hl : w.heap[g]? = some (.cells vs 26)) : Ans (w.setCell ⟨g, o, none⟩ u) base v zs := by
  have hne : v.ownBlock ≠ some g := by
    obtain ⟨_, h2⟩ := h.own
    rcases h2 with ⟨rfl, _⟩ | ⟨g', cap, cur, rfl, _, hh, _⟩
    · simp [Value.ownBlock]
    · intro e
      simp [Value.ownBlock] at e
      subst e
      rw [hl] at hh
      simp at hh
  exact ⟨ownsRow_setCell_other h.own hne _, h.limbs⟩

theorem Ans.duo {w : World} {base g : Nat} {v u0 u1 a b : Value} {zs : List Nat} (h : Ans w base v zs) (hl : w.heap[g]? = some (.cells #[a, b] 26)) : Ans ((w.setCell ⟨g, 0, none⟩ u0).setCell ⟨g, 1, none⟩ u1) base v zs :=
  (h.off1 hl).off1 (box_modify hl u0)

theorem ZR.duo {w : World} {base g : Nat} {b : Bool} {va u0 u1 a1 b1 : Value} {c z : Int} (h : ZR w base b va c z) (hl : w.heap[g]? = some (.cells #[a1, b1] 26)) : ZR ((w.setCell ⟨g, 0, none⟩ u0).setCell ⟨g, 1, none⟩ u1) base b va c z := by
  obtain ⟨rs, h1, h2⟩ := h
  exact ⟨rs, h1.duo hl, h2⟩

theorem Ans.shape {w : World} {base : Nat} {v : Value} {rs : List Nat} (h : Ans w base v rs) : ∃ a c, v = .slice a rs.length c := by
  rcases h.form with ⟨rfl, h⟩ | ⟨g, cap, rfl, _⟩
  · exact ⟨none, 0, by simp_all⟩
  · exact ⟨_, _, rfl⟩

theorem duo_other {w : World} {g h : Nat} {u0 u1 : Value} {x : Obj} (e : w.heap[h]? = some x) (hne : h ≠ g) : ((w.setCell ⟨g, 0, none⟩ u0).setCell ⟨g, 1, none⟩ u1).heap[h]? = some x := by
  rw [Below.heap_setCell _ _ _ _ hne, Below.heap_setCell _ _ _ _ hne]; exact e

end Go.Proofs.YtppblbhkghjphaaGreatDoor
