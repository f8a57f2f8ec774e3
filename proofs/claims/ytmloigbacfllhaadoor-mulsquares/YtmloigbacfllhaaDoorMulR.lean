/- Package mul: what 'halves' wants: pieces of blocks as arguments, frames. -/
import Derived.Test.YtmloigbacfllhaaDoorMulQ
namespace Go.Proofs.YtmloigbacfllhaaDoor
open Go.RowKit
open Lm

theorem Arg.drew {w : World} {v : Value} {zs : List Nat} (h : Arg w v zs) : Arg w.drew v zs := h.below (Below.refl _ _).drew

theorem Arg.front {w : World} {b off n cap : Nat} {X : List Nat} (h : Arg w (.slice (some ⟨b, off, none⟩) n cap) X) (m : Nat) (hm : m ≤ n) : Arg w (.slice (some ⟨b, off, none⟩) m cap) (X.take m) := h.cut 0 m (by omega)

theorem val_halves (X : List Nat) (h : Nat) (hh : h ≤ X.length) : val X = val (X.take h) + 18446744073709551616 ^ h * val (X.drop h) := by
  conv => lhs; rw [← List.take_append_drop h X, val_append]
  rw [List.length_take, Nat.min_eq_left hh]

theorem val_take_lt' {X : List Nat} (hX : Limbs X) (h : Nat) (hh : h ≤ X.length) : val (X.take h) < 18446744073709551616 ^ h := by
  have := val_lt (zs := X.take h) (fun z hz => hX z (List.mem_of_mem_take hz))
  rwa [List.length_take, Nat.min_eq_left hh] at this

theorem val_drop_lt' {X : List Nat} (hX : Limbs X) (h m : Nat) (hh : X.length ≤ h + m) : val (X.drop h) < 18446744073709551616 ^ m := by
  have h1 := val_lt (zs := X.drop h) (fun z hz => hX z (List.mem_of_mem_drop hz))
  refine Nat.lt_of_lt_of_le h1 (Nat.pow_le_pow_right (by omega) ?_)
  simp; omega

theorem Fr.undrew {bz : Nat} {w w' : World} (h : Fr bz w.drew w') : Fr bz w w' := ⟨h.os, h.tape, h.output, h.size, h.block⟩

/-- An argument in another block stays as it was. -/
theorem Arg.frb {w w' : World} {b off n c bz : Nat} {X : List Nat} (h : Arg w (.slice (some ⟨b, off, none⟩) n c) X) (hf : Fr bz w w') (hb : b ≠ bz) : Arg w' (.slice (some ⟨b, off, none⟩) n c) X := by
  obtain ⟨ao, cc, e, h2, h3, hl⟩ := h.form
  cases e
  refine ⟨⟨_, _, rfl, h2, h3, ?_⟩, h.limbs, h.few, h.nz⟩
  rcases hl with h0 | ⟨b', off', e, hc⟩
  · exact .inl h0
  · cases e
    rcases Nat.eq_zero_or_pos X.length with h0 | h0
    · exact .inl (List.length_eq_zero_iff.1 h0)
    · have hlt : b < w.heap.size := Lies.block (zs := X) (.inr ⟨b, off, rfl, hc⟩) h0
      refine .inr ⟨b, off, rfl, fun k hk => ?_⟩
      rw [World.cell?_of_block (w := w) (hf.block b hlt hb)]
      exact hc k hk

/-- A piece of a block, as an argument. -/
theorem Blk.seg_arg {w : World} {g : Nat} {M : List Nat} (h : Blk w g M) (hl : Limbs M) (o n cap : Nat) (hs : o + n ≤ M.length) (hc : n ≤ cap) (hm : cap ≤ 9223372036854775807) (hn : n ≤ 1125899906842624) : Arg w (.slice (some ⟨g, o, none⟩) n cap) (seg M o n) := by
  have e := seg_length M o n hs
  refine ⟨⟨_, cap, by rw [e], by omega, hm, .inr ⟨g, o, rfl, fun k hk => ?_⟩⟩, limbs_seg hl o n, by omega, fun n c e => by cases e⟩
  rw [e] at hk
  rw [h.cell (o + k) (by omega), seg_getD _ _ _ _ hk]

end Go.Proofs.YtmloigbacfllhaaDoor
