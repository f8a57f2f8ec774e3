/- Package nat, where the answer is not too great: the number, in memory that can be read. -/
import Derived.Test.YthcdjlhhiheclabNatC
import Derived.Test.YthcdjlhhiheclabNatE
import Derived.Test.YthcdjlhhiheclabNatH
namespace Go.Proofs.Ythcdjlhhiheclab
open Go.RowKit
open Lm

def Okv (w : World) (e : Ending) (s : Nat) : Prop :=
  ∃ v rs, e = .returned (.tuple #[v, .int .i64 0]) ∧ Arg w v rs ∧ val rs = s ∧ rs.length ≤ 1048576

theorem Res.ok {w : World} {base : Nat} {e : Ending} {s : Nat} (h : Res w base e s) (hs : blen s ≤ 67108864) : Okv w e s := by
  obtain ⟨v, c, rs, rfl, hans, ⟨rfl, hv, ht, _⟩ | ⟨_, _, hbad⟩⟩ := h
  · have hl : rs.length ≤ 1048576 := by
      have := few_limbs rs 1048576 (by rw [hv]; omega)
      rwa [ht] at this
    exact ⟨v, rs, rfl, hans.arg (by omega), hv, hl⟩
  · omega

theorem add_ok (v1 v2 : Value) (zs ys : List Nat) (w : World) (h1 : Arg w v1 zs) (h2 : Arg w v2 ys) (f1 : zs.length ≤ 35184372088831) (f2 : ys.length ≤ 35184372088831) (h : blen (val zs + val ys) ≤ 67108864) :
    Calls Try.prog 8 #[v1, v2] w fun e w' => Okv w' e (val zs + val ys) ∧ Below w.heap.size w w' :=
  (add_any v1 v2 zs ys w h1 h2 f1 f2).mono fun _ _ ⟨hb, hr⟩ => ⟨hr.ok h, hb⟩

theorem sub_ok (v1 v2 : Value) (zs ys : List Nat) (w : World) (h1 : Arg w v1 zs) (h2 : Arg w v2 ys) (f1 : zs.length ≤ 35184372088831) (h : val ys ≤ val zs) (hb : blen (val zs - val ys) ≤ 67108864) :
    Calls Try.prog 9 #[v1, v2] w fun e w' => Okv w' e (val zs - val ys) ∧ Below w.heap.size w w' := by
  refine (sub_any v1 v2 zs ys w h1 h2 f1).mono ?_
  rintro e w' ⟨hbel, ⟨hbad, _⟩ | ⟨_, hr⟩⟩
  · omega
  · exact ⟨hr.ok hb, hbel⟩

theorem left_ok (v : Value) (zs : List Nat) (n : Nat) (w : World) (h1 : Arg w v zs) (f1 : zs.length ≤ 35184372088831) (hn : n ≤ 1099511627776) (h : blen (val zs * 2 ^ n) ≤ 67108864) :
    Calls Try.prog 11 #[v, .int .i64 n] w fun e w' => Okv w' e (val zs * 2 ^ n) ∧ Below w.heap.size w w' :=
  (left_any v zs n w h1 f1 hn).mono fun _ _ ⟨hb, hr⟩ => ⟨hr.ok h, hb⟩

theorem right_ok (v : Value) (zs : List Nat) (n : Nat) (w : World) (h1 : Arg w v zs) (f1 : zs.length ≤ 35184372088831) (hn : n ≤ 1099511627776) (h : blen (val zs / 2 ^ n) ≤ 67108864) :
    Calls Try.prog 12 #[v, .int .i64 n] w fun e w' => Okv w' e (val zs / 2 ^ n) ∧ Below w.heap.size w w' :=
  (right_any v zs n w h1 f1 hn).mono fun _ _ ⟨hb, hr⟩ => ⟨hr.ok h, hb⟩

theorem low_ok (v : Value) (zs : List Nat) (n : Nat) (w : World) (h1 : Arg w v zs) (f1 : zs.length ≤ 17592186044416) (hn : n ≤ 1099511627776) (h : blen (val zs % 2 ^ n) ≤ 67108864) :
    Calls Try.prog 13 #[v, .int .i64 n] w fun e w' => Okv w' e (val zs % 2 ^ n) ∧ Below w.heap.size w w' :=
  (low_any v zs n w h1 f1 hn).mono fun _ _ ⟨hb, hr⟩ => ⟨hr.ok h, hb⟩

theorem blen_add (a b k : Nat) (ha : blen a ≤ k) (hb : blen b ≤ k) : blen (a + b) ≤ k + 1 := by
  rw [blen_le_iff] at *
  rw [Nat.pow_succ]; omega

theorem blen_mul_pow (a n k : Nat) (ha : blen a ≤ k) : blen (a * 2 ^ n) ≤ k + n := by
  by_cases h : a = 0
  · subst h; simp [blen]
  · rw [blen_shl a n h]; omega

end Go.Proofs.Ythcdjlhhiheclab
