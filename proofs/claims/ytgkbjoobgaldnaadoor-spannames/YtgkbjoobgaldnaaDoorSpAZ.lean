/- Package span: boxes of six cells; the laws' small; sums of dyadics at one scale. -/
import Derived.Test.YtgkbjoobgaldnaaDoorDyYaZ
import Derived.Test.YtgkbjoobgaldnaaDoorDyRwZ
import Derived.Test.YtgkbjoobgaldnaaDoorQB
namespace Go.Proofs.YtgkbjoobgaldnaaDoor
open Go.RowKit
open Lm
attribute [local go_sem ↓] Go.wp_at_zero Go.wp_at_succ

theorem hexa {w : World} {g : Nat} {a b c d e f : Value} {t : TypeId} (h : w.heap[g]? = some (.cells #[a, b, c, d, e, f] t)) : w.cell? ⟨g, 0, none⟩ = some a ∧ w.cell? ⟨g, 1, none⟩ = some b ∧ w.cell? ⟨g, 2, none⟩ = some c ∧ w.cell? ⟨g, 3, none⟩ = some d ∧ w.cell? ⟨g, 4, none⟩ = some e ∧ w.cell? ⟨g, 5, none⟩ = some f := by
  refine ⟨?_, ?_, ?_, ?_, ?_, ?_⟩ <;> simp [World.cell?, h]

theorem hexaf {w : World} {g : Nat} {a b c d e f : Value} {t : TypeId} (h : w.heap[g]? = some (.cells #[a, b, c, d, e, f] t)) : ∀ k, w.frozen? ⟨g, k, none⟩ = false := fun k => by simp [World.frozen?, h]

theorem hexa_all {w : World} {g : Nat} {a b c d e f : Value} {t : TypeId} (h : w.heap[g]? = some (.cells #[a, b, c, d, e, f] t)) (u0 u1 u2 u3 u4 u5 : Value) : ((((((w.setCell ⟨g, 0, none⟩ u0).setCell ⟨g, 1, none⟩ u1).setCell ⟨g, 2, none⟩ u2).setCell ⟨g, 3, none⟩ u3).setCell ⟨g, 4, none⟩ u4).setCell ⟨g, 5, none⟩ u5).heap[g]? = some (.cells #[u0, u1, u2, u3, u4, u5] t) :=
  box_modify (box_modify (box_modify (box_modify (box_modify (box_modify h u0) u1) u2) u3) u4) u5

theorem below_hexa {B : Nat} {w0 w : World} {g : Nat} (h : Below B w0 w) (hg : B ≤ g) (u0 u1 u2 u3 u4 u5 : Value) : Below B w0 ((((((w.setCell ⟨g, 0, none⟩ u0).setCell ⟨g, 1, none⟩ u1).setCell ⟨g, 2, none⟩ u2).setCell ⟨g, 3, none⟩ u3).setCell ⟨g, 4, none⟩ u4).setCell ⟨g, 5, none⟩ u5) :=
  (((((h.setCell (p := ⟨g, 0, none⟩) hg u0).setCell (p := ⟨g, 1, none⟩) hg u1).setCell (p := ⟨g, 2, none⟩) hg u2).setCell (p := ⟨g, 3, none⟩) hg u3).setCell (p := ⟨g, 4, none⟩) hg u4).setCell (p := ⟨g, 5, none⟩) hg u5

theorem Lies.boxH {w : World} {ao : Option Addr} {zs : List Nat} {g o : Nat} {p : Bool} {a : Option Addr} {n c : Nat} {e : Int} {p' : Bool} {a' : Option Addr} {n' c' : Nat} {e' : Int} {t : TypeId} {u : Value} (h : Lies w ao zs) (hl : w.heap[g]? = some (.cells #[.bool p, .slice a n c, .int .i64 e, .bool p', .slice a' n' c', .int .i64 e'] t)) : Lies (w.setCell ⟨g, o, none⟩ u) ao zs := by
  rcases h with h | ⟨b, off, rfl, hc⟩
  · exact .inl h
  · rcases Nat.eq_zero_or_pos zs.length with h0 | h0
    · exact .inl (List.eq_nil_of_length_eq_zero h0)
    · refine .inr ⟨b, off, rfl, fun k hk => ?_⟩
      rw [cell_other8]
      · exact hc k hk
      · rintro rfl
        have h1 := hc 0 h0
        rw [Nat.add_zero] at h1
        simp only [World.cell?, hl] at h1
        match off, h1 with
        | 0, h1 => simp at h1
        | 1, h1 => simp at h1
        | 2, h1 => simp at h1
        | 3, h1 => simp at h1
        | 4, h1 => simp at h1
        | 5, h1 => simp at h1
        | k + 6, h1 => simp at h1

theorem Arg.boxH {w : World} {v : Value} {zs : List Nat} {g o : Nat} {p : Bool} {a : Option Addr} {n c : Nat} {e : Int} {p' : Bool} {a' : Option Addr} {n' c' : Nat} {e' : Int} {t : TypeId} {u : Value} (h : Arg w v zs) (hl : w.heap[g]? = some (.cells #[.bool p, .slice a n c, .int .i64 e, .bool p', .slice a' n' c', .int .i64 e'] t)) : Arg (w.setCell ⟨g, o, none⟩ u) v zs := by
  obtain ⟨ao, cap, h1, h2, h3, h4⟩ := h.form
  exact ⟨⟨ao, cap, h1, h2, h3, h4.boxH hl⟩, h.limbs, h.few, h.nz⟩

/-- A span's box written. -/
theorem Arg.hexa {w : World} {v : Value} {zs : List Nat} {g : Nat} {p : Bool} {a : Option Addr} {n c : Nat} {e : Int} {p' : Bool} {a' : Option Addr} {n' c' : Nat} {e' : Int} {t : TypeId} (h : Arg w v zs) (hl : w.heap[g]? = some (.cells #[.bool p, .slice a n c, .int .i64 e, .bool p', .slice a' n' c', .int .i64 e'] t)) (b1 : Bool) (a1 : Option Addr) (n1 c1 : Nat) (e1 : Int) (b2 : Bool) (a2 : Option Addr) (n2 c2 : Nat) (e2 : Int) :
    Arg ((((((w.setCell ⟨g, 0, none⟩ (.bool b1)).setCell ⟨g, 1, none⟩ (.slice a1 n1 c1)).setCell ⟨g, 2, none⟩ (.int .i64 e1)).setCell ⟨g, 3, none⟩ (.bool b2)).setCell ⟨g, 4, none⟩ (.slice a2 n2 c2)).setCell ⟨g, 5, none⟩ (.int .i64 e2)) v zs := by
  have h1 := h.boxH (o := 0) (u := .bool b1) hl
  have l1 := box_modify (k := 0) hl (.bool b1)
  have h2 := h1.boxH (o := 1) (u := .slice a1 n1 c1) l1
  have l2 := box_modify (k := 1) l1 (.slice a1 n1 c1)
  have h3 := h2.boxH (o := 2) (u := .int .i64 e1) l2
  have l3 := box_modify (k := 2) l2 (.int .i64 e1)
  have h4 := h3.boxH (o := 3) (u := .bool b2) l3
  have l4 := box_modify (k := 3) l3 (.bool b2)
  have h5 := h4.boxH (o := 4) (u := .slice a2 n2 c2) l4
  have l5 := box_modify (k := 4) l4 (.slice a2 n2 c2)
  exact h5.boxH (o := 5) (u := .int .i64 e2) l5

theorem G8.hexa {w : World} {b : Bool} {a0 : Option Addr} {n0 k0 : Nat} {ex : Int} {L : Nat} {V : Int} {g : Nat} {p : Bool} {a : Option Addr} {n c : Nat} {e : Int} {p' : Bool} {a' : Option Addr} {n' c' : Nat} {e' : Int} {t : TypeId} (h : G8 w b a0 n0 k0 ex L V) (hl : w.heap[g]? = some (.cells #[.bool p, .slice a n c, .int .i64 e, .bool p', .slice a' n' c', .int .i64 e'] t)) (b1 : Bool) (a1 : Option Addr) (n1 c1 : Nat) (e1 : Int) (b2 : Bool) (a2 : Option Addr) (n2 c2 : Nat) (e2 : Int) :
    G8 ((((((w.setCell ⟨g, 0, none⟩ (.bool b1)).setCell ⟨g, 1, none⟩ (.slice a1 n1 c1)).setCell ⟨g, 2, none⟩ (.int .i64 e1)).setCell ⟨g, 3, none⟩ (.bool b2)).setCell ⟨g, 4, none⟩ (.slice a2 n2 c2)).setCell ⟨g, 5, none⟩ (.int .i64 e2)) b a0 n0 k0 ex L V := by
  obtain ⟨rs, h1, h2, h3⟩ := h
  exact ⟨rs, h1, h2.hexa hl b1 a1 n1 c1 e1 b2 a2 n2 c2 e2, h3⟩

theorem G8.tri9 {w : World} {b : Bool} {a0 : Option Addr} {n0 k0 : Nat} {ex : Int} {L : Nat} {V : Int} {g : Nat} {p : Bool} {a : Option Addr} {n c : Nat} {e : Int} {t : TypeId} (h : G8 w b a0 n0 k0 ex L V) (hl : w.heap[g]? = some (.cells #[.bool p, .slice a n c, .int .i64 e] t)) (b1 : Bool) (a1 : Option Addr) (n1 c1 : Nat) (e1 : Int) :
    G8 (((w.setCell ⟨g, 0, none⟩ (.bool b1)).setCell ⟨g, 1, none⟩ (.slice a1 n1 c1)).setCell ⟨g, 2, none⟩ (.int .i64 e1)) b a0 n0 k0 ex L V := by
  obtain ⟨rs, h1, h2, h3⟩ := h
  exact ⟨rs, h1, h2.tri8 hl b1 a1 n1 c1 _, h3⟩

/-- Add, answered for sure. -/
theorem yadd8s (b1 : Bool) (a1 : Option Addr) (n1 k1 : Nat) (ex1 : Int) (b2 : Bool) (a2 : Option Addr) (n2 k2 : Nat) (ex2 : Int) (L : Nat) (V1 V2 : Int) (w : World) (hT : Tab w) (h1 : I8 w b1 a1 n1 k1 ex1 L V1) (h2 : I8 w b2 a2 n2 k2 ex2 L V2) (hE1 : fitE ex1 = true) (hE2 : fitE ex2 = true) (ho : Ok8 L (V1 + V2)) :
    Calls Tryd.prog 19 #[.agg #[.bool b1, .slice a1 n1 k1, .int .i64 ex1], .agg #[.bool b2, .slice a2 n2 k2, .int .i64 ex2]] w fun e w' => S8 w e w' L (V1 + V2) := by
  obtain ⟨X, rfl, hA, hf, hX⟩ := h1
  obtain ⟨Y, rfl, hB, hg, hY⟩ := h2
  have F1 := read_facts (b := b1) (ex := ex1) hA hf hE1
  have F2 := read_facts (b := b2) (ex := ex2) hB hg hE2
  refine (yadd_res b1 a1 _ k1 ex1 b2 a2 _ k2 ex2 _ _ w (fun W hg' => yjp_ok b1 a1 k1 X ex1 b2 a2 k2 Y ex2 _ _ W (hT.below hg') (hA.below hg') (hB.below hg') hf hg hE1 hE2 (fun W2 b3 a3 c3 X3 b4 a4 c4 X4 t3 m3 m4 l3 l4 => yplus_any b3 a3 c3 X3 _ _ b4 a4 c4 X4 _ _ W2 m3 m4 F1.2.2.2 F2.2.2.2 l3 l4 F1.2.1 F2.2.2.1 F2.2.1 F1.2.2.1))).mono fun e w' h => DRes.s8 h.1 (Rp.add hX.norm hY.norm).norm (nr8_of _ _) ho h.2

set_option maxRecDepth 20000 in
set_option maxHeartbeats 1000000 in
/-- The laws' small. -/
theorem small_any (k : Nat) (L : Nat) (w : World) (h0 : k < 9223372036854775808) :
    Calls Tryd.prog 7 #[.int .i64 (k : Int)] w fun e w' => (∃ a n c, e = .returned (.agg #[.bool false, .slice a n c, .int .i64 0]) ∧ I8 w' false a n c 0 L ((k : Int) * 2 ^ L)) ∧ Below w.heap.size w w' := by
  obtain ⟨w0, hw0, hb0, h0'⟩ := enter1 w (.cells #[.bool false, .slice none 0 0, .int .i64 0] 30)
  obtain ⟨w1, hw1, hb1, h1⟩ := enter1 w0 (.cells #[.int .u64 (k : Int)] 45)
  have hA := Arg.lits w0 [k] #[.int .u64 (k : Int)] 1 rfl rfl (by intro z hz; simp at hz; omega) (by simp)
  rw [hw1] at hA
  have HC := hide (block_upW hb1 h0')
  have HG := hide (bl_trans8 hb0 hb1)
  have HA := hide hA
  have wk : IntKind.u64.wrap (k : Int) = (k : Int) := by rw [IntKind.wrap_u64]; omega
  have hf1 := tri8f HC.out
  obtain ⟨m0, m1, m2⟩ := tri8 HC.out
  clear hA hb0 hb1 h0' h1
  go_enter Tryd.func7, Tryd.ntmps7
  go_wp2
  have T3 := tri8_all HC.out (.bool false) (.slice (some ⟨w0.heap.size, 0, none⟩) 1 1) (.int .i64 0)
  have T4 := below_tri8 HG.out (Nat.le_refl _) (.bool false) (.slice (some ⟨w0.heap.size, 0, none⟩) 1 1) (.int .i64 0)
  have T5 := HA.out.tri8 HC.out false (some ⟨w0.heap.size, 0, none⟩) 1 1 (.int .i64 0)
  obtain ⟨p0, p1, p2⟩ := tri8 T3
  have HE := hide (And.intro T5 T4)
  clear T3 T4 T5
  generalize ((w1.setCell ⟨w.heap.size, 0, none⟩ (.bool false)).setCell ⟨w.heap.size, 1, none⟩ (.slice (some ⟨w0.heap.size, 0, none⟩) 1 1)).setCell ⟨w.heap.size, 2, none⟩ (.int .i64 0) = w5 at *
  refine bodyPost_ret (v := .agg #[.bool false, .slice (some ⟨w0.heap.size, 0, none⟩) 1 1, .int .i64 0]) (by simp [results, Tryd.results7, go_sem, p0, p1, p2]) rfl ?_
  refine ⟨⟨_, _, _, rfl, [k], rfl, HE.out.1, by simp, ⟨by omega, ?_⟩⟩, HE.out.2⟩
  rw [show ((0 : Int) + (L : Int)).toNat = L by omega, show zz false (val [k]) = (k : Int) by simp [zz, val]]

end Go.Proofs.YtgkbjoobgaldnaaDoor
