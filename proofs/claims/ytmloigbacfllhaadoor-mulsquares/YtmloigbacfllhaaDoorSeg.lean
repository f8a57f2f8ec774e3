/- Plain facts: a piece of a list of limbs, written over in place. -/
import Derived.Test.YtmloigbacfllhaaDoorPure5
namespace Go.Proofs.YtmloigbacfllhaaDoor
open Lm

/-- The limbs from o on, n of them. -/
def seg (Z : List Nat) (o n : Nat) : List Nat := (Z.drop o).take n

/-- Their value. -/
def sv (Z : List Nat) (o n : Nat) : Nat := val (seg Z o n)

/-- Nothing outside lo .. hi has turned. -/
structure Out (Z Z' : List Nat) (lo hi : Nat) : Prop where
  len : Z'.length = Z.length
  same : ∀ k, k < lo ∨ hi ≤ k → Z'.getD k 0 = Z.getD k 0

theorem Out.refl (Z : List Nat) (lo hi : Nat) : Out Z Z lo hi := ⟨rfl, fun _ _ => rfl⟩

theorem Out.trans {Z Z' Z'' : List Nat} {lo hi : Nat} (h : Out Z Z' lo hi) (k : Out Z' Z'' lo hi) : Out Z Z'' lo hi :=
  ⟨k.len.trans h.len, fun j hj => (k.same j hj).trans (h.same j hj)⟩

theorem Out.wider {Z Z' : List Nat} {lo hi lo' hi' : Nat} (h : Out Z Z' lo hi) (h1 : lo' ≤ lo) (h2 : hi ≤ hi') : Out Z Z' lo' hi' :=
  ⟨h.len, fun k hk => h.same k (by omega)⟩

theorem getD_set (Z : List Nat) (j k z : Nat) : (Z.set j z).getD k 0 = if j = k ∧ k < Z.length then z else Z.getD k 0 := by
  by_cases h : j = k
  · subst h
    by_cases hl : j < Z.length
    · simp [List.getD, hl]
    · simp [List.getD, hl]
  · simp [List.getD, h]

theorem Out.set {Z Z' : List Nat} {lo hi : Nat} (h : Out Z Z' lo hi) (j z : Nat) (h1 : lo ≤ j) (h2 : j < hi) : Out Z (Z'.set j z) lo hi :=
  ⟨by simp [h.len], fun k hk => by rw [getD_set, if_neg (by omega)]; exact h.same k hk⟩

theorem seg_length (Z : List Nat) (o n : Nat) (h : o + n ≤ Z.length) : (seg Z o n).length = n := by
  simp [seg]; omega

theorem seg_getD (Z : List Nat) (o n k : Nat) (h : k < n) : (seg Z o n).getD k 0 = Z.getD (o + k) 0 := by
  simp [seg, List.getD, h]

theorem list_ext0 {a b : List Nat} (hl : a.length = b.length) (h : ∀ k, k < a.length → a.getD k 0 = b.getD k 0) : a = b := by
  refine List.ext_getElem hl fun k h1 h2 => ?_
  have := h k h1
  simpa [List.getD, h1, h2] using this

theorem Out.seg {Z Z' : List Nat} {lo hi : Nat} (h : Out Z Z' lo hi) (o n : Nat) (hd : o + n ≤ lo ∨ hi ≤ o) : seg Z' o n = seg Z o n := by
  have hl : (Go.Proofs.YtmloigbacfllhaaDoor.seg Z' o n).length = (Go.Proofs.YtmloigbacfllhaaDoor.seg Z o n).length := by simp [Go.Proofs.YtmloigbacfllhaaDoor.seg, h.len]
  refine list_ext0 hl fun k hk => ?_
  have hk' : k < n := by simp [Go.Proofs.YtmloigbacfllhaaDoor.seg] at hk; omega
  rw [seg_getD _ _ _ _ hk', seg_getD _ _ _ _ hk', h.same _ (by omega)]

theorem Out.sv {Z Z' : List Nat} {lo hi : Nat} (h : Out Z Z' lo hi) (o n : Nat) (hd : o + n ≤ lo ∨ hi ≤ o) : sv Z' o n = sv Z o n := by
  unfold Go.Proofs.YtmloigbacfllhaaDoor.sv; rw [h.seg o n hd]

theorem sv_zero (Z : List Nat) (o : Nat) : sv Z o 0 = 0 := by simp [sv, seg, val]

theorem sv_split (Z : List Nat) (o m n : Nat) (h : o + m ≤ Z.length) : sv Z o (m + n) = sv Z o m + 18446744073709551616 ^ m * sv Z (o + m) n := by
  unfold sv
  have e : seg Z o (m + n) = seg Z o m ++ seg Z (o + m) n := by
    unfold seg
    rw [List.take_add, List.drop_drop]
  rw [e, val_append, seg_length Z o m h]

theorem sv_one (Z : List Nat) (o : Nat) (h : o < Z.length) : sv Z o 1 = Z.getD o 0 := by
  unfold sv seg
  rw [List.drop_eq_getElem_cons h, List.take_succ_cons, List.take_zero, val, val]
  simp [List.getD, h]

theorem sv_succ (Z : List Nat) (o i : Nat) (h : o + i < Z.length) : sv Z o (i + 1) = sv Z o i + 18446744073709551616 ^ i * Z.getD (o + i) 0 := by
  rw [sv_split Z o i 1 (by omega), sv_one _ _ h]

theorem limbs_seg {Z : List Nat} (h : Limbs Z) (o n : Nat) : Limbs (seg Z o n) := fun z hz => h z (List.mem_of_mem_drop (List.mem_of_mem_take hz))

theorem sv_lt {Z : List Nat} (h : Limbs Z) (o n : Nat) : sv Z o n < 18446744073709551616 ^ n := by
  have h1 := val_lt (limbs_seg h o n)
  refine Nat.lt_of_lt_of_le h1 (Nat.pow_le_pow_right (by omega) ?_)
  simp [seg]; omega

/-- One limb of the piece is set, the first ones being done. -/
theorem sv_set_succ (Z : List Nat) (o i z : Nat) (h : o + i < Z.length) : sv (Z.set (o + i) z) o (i + 1) = sv Z o i + 18446744073709551616 ^ i * z := by
  rw [sv_succ _ _ _ (by simpa using h), getD_set, if_pos ⟨rfl, h⟩]
  have e : Out Z (Z.set (o + i) z) (o + i) (o + i + 1) := (Out.refl _ _ _).set _ _ (by omega) (by omega)
  rw [e.sv o i (by omega)]

theorem sv_all (Z : List Nat) : sv Z 0 Z.length = val Z := by simp [sv, seg]

/-- One limb of a times m is added. -/
theorem addTimes_step (Z Z' X : List Nat) (o i m cy hi lo : Nat) (hz : o + i < Z'.length) (h0 : Z'.getD (o + i) 0 = Z.getD (o + i) 0) (hZ : Z'.length = Z.length)
    (h : sv Z' o i + cy * 18446744073709551616 ^ i = sv Z o i + val (X.take i) * m)
    (hs : lo + hi * 18446744073709551616 = X.getD i 0 * m + Z.getD (o + i) 0 + cy) :
    sv (Z'.set (o + i) lo) o (i + 1) + hi * 18446744073709551616 ^ (i + 1) = sv Z o (i + 1) + val (X.take (i + 1)) * m := by
  have := h0
  rw [sv_set_succ _ _ _ _ hz, sv_succ Z o i (by omega), val_take_next X i, show (18446744073709551616 : Nat) ^ (i + 1) = 18446744073709551616 ^ i * 18446744073709551616 from Nat.pow_succ ..]
  generalize sv Z' o i = V' at *
  generalize sv Z o i = V at *
  generalize val (X.take i) = U at *
  generalize Z.getD (o + i) 0 = z at *
  generalize X.getD i 0 = x at *
  generalize (18446744073709551616 : Nat) ^ i = P at *
  generalize (18446744073709551616 : Nat) = W at *
  grind

theorem addTimes_fit (x m z cy : Nat) (hx : x < 18446744073709551616) (hm : m < 18446744073709551616) (hz : z < 18446744073709551616) (hc : cy < 18446744073709551616) :
    x * m + z + cy < 18446744073709551616 * 18446744073709551616 := by
  have h := Nat.mul_le_mul (Nat.le_sub_one_of_lt hx) (Nat.le_sub_one_of_lt hm)
  omega

end Go.Proofs.YtmloigbacfllhaaDoor
