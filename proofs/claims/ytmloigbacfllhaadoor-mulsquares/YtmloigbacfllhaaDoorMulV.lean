/- Package mul: three blocks of one length that are worked on in place. -/
import Derived.Test.YtmloigbacfllhaaDoorMulU
namespace Go.Proofs.YtmloigbacfllhaaDoor
open Go.RowKit
open Lm

/-- A block of N limbs that says v. -/
def Hold (w : World) (g N v : Nat) : Prop := ∃ A : List Nat, Blk w g A ∧ Limbs A ∧ A.length = N ∧ val A = v

theorem Hold.fr {w w' : World} {g N v bz : Nat} (h : Hold w g N v) (hf : Fr bz w w') (hne : g ≠ bz) : Hold w' g N v := by
  obtain ⟨A, h1, h2⟩ := h
  exact ⟨A, hf.blk h1 hne, h2⟩

theorem Hold.arg {w : World} {g N v : Nat} (h : Hold w g N v) (hN : N ≤ 1125899906842624) : ∃ A : List Nat, Arg w (.slice (some ⟨g, 0, none⟩) N N) A ∧ val A = v := by
  obtain ⟨A, h1, h2, h3, h4⟩ := h
  refine ⟨A, ?_, h4⟩
  have := h1.take_arg h2 N N (by omega) (Nat.le_refl _) (by omega)
  rwa [List.take_of_length_le (by omega)] at this

theorem aside_of {g g' o n c : Nat} (h : g ≠ g') : ∀ lo hi, Off (.slice (some ⟨g, o, none⟩) n c) g' lo hi := fun lo hi b off n c e => by
  cases e
  exact .inl h

/-- The product's block, and three blocks besides: o, e, t. -/
structure St3 (w0 ws w : World) (bz o e t N : Nat) (Z : List Nat) (vo ve vt : Nat) : Prop where
  fr : Fr bz w0 w
  blk : Blk w bz Z
  lz : Limbs Z
  lt : bz < w0.heap.size
  no : w0.heap.size ≤ o
  ne : w0.heap.size ≤ e
  nt : w0.heap.size ≤ t
  oe : o ≠ e
  ot : o ≠ t
  et : e ≠ t
  ho : Hold w o N vo
  he : Hold w e N ve
  ht : Hold w t N vt
  size : ws.heap.size ≤ w.heap.size
  keep : ∀ k, k < ws.heap.size → k ≠ bz → k ≠ o → k ≠ e → k ≠ t → w.heap[k]? = ws.heap[k]?

theorem St3.oe' {w0 ws w : World} {bz o e t N : Nat} {Z : List Nat} {vo ve vt : Nat} (h : St3 w0 ws w bz o e t N Z vo ve vt) : St3 w0 ws w bz e o t N Z ve vo vt :=
  ⟨h.fr, h.blk, h.lz, h.lt, h.ne, h.no, h.nt, Ne.symm h.oe, h.et, h.ot, h.he, h.ho, h.ht, h.size, fun k a b c d e => h.keep k a b d c e⟩

theorem St3.et' {w0 ws w : World} {bz o e t N : Nat} {Z : List Nat} {vo ve vt : Nat} (h : St3 w0 ws w bz o e t N Z vo ve vt) : St3 w0 ws w bz o t e N Z vo vt ve :=
  ⟨h.fr, h.blk, h.lz, h.lt, h.no, h.nt, h.ne, h.ot, h.oe, Ne.symm h.et, h.ho, h.ht, h.he, h.size, fun k a b c d e => h.keep k a b c e d⟩

/-- The second block has turned. -/
theorem St3.up {w0 ws w : World} {bz o e t N : Nat} {Z : List Nat} {vo ve vt : Nat} (h : St3 w0 ws w bz o e t N Z vo ve vt) {E : List Nat} {p : Nat} {en : Ending} {w' : World} (hl : E.length = N) (hd : IntoDone e 0 N E w p en w') :
    en = .returned (.tuple #[]) ∧ St3 w0 ws w' bz o e t N Z vo p vt := by
  obtain ⟨rfl, E', q1, q2, q3, q4, q5⟩ := hd
  have hlt := h.lt
  have hne := h.ne
  have hE : E'.length = N := by rw [q1.len, hl]
  refine ⟨rfl, h.fr.other q4 h.ne, q4.blk h.blk (by omega), h.lz, h.lt, h.no, h.ne, h.nt, h.oe, h.ot, h.et, h.ho.fr q4 h.oe, ⟨E', q3, q2, hE, ?_⟩, h.ht.fr q4 (Ne.symm h.et), Nat.le_trans h.size q4.size, fun k a b c d f => (q4.block k (Nat.lt_of_lt_of_le a h.size) d).trans (h.keep k a b c d f)⟩
  rw [← q5, ← hE, sv_all]

/-- The product's block has turned. -/
theorem St3.upz {w0 ws w : World} {bz o e t N : Nat} {Z : List Nat} {vo ve vt : Nat} (h : St3 w0 ws w bz o e t N Z vo ve vt) {zo n p : Nat} {en : Ending} {w' : World} (hd : IntoDone bz zo n Z w p en w') :
    en = .returned (.tuple #[]) ∧ ∃ Z', St3 w0 ws w' bz o e t N Z' vo ve vt ∧ Out Z Z' zo (zo + n) ∧ sv Z' zo n = p := by
  obtain ⟨rfl, Z', q1, q2, q3, q4, q5⟩ := hd
  have hlt := h.lt
  have h1 := h.no
  have h2 := h.ne
  have h3 := h.nt
  exact ⟨rfl, Z', ⟨h.fr.trans q4, q3, q2, h.lt, h.no, h.ne, h.nt, h.oe, h.ot, h.et, h.ho.fr q4 (by omega), h.he.fr q4 (by omega), h.ht.fr q4 (by omega), Nat.le_trans h.size q4.size, fun k a b c d f => (q4.block k (Nat.lt_of_lt_of_le a h.size) b).trans (h.keep k a b c d f)⟩, q1, q5⟩

theorem sv_full {E : List Nat} {N : Nat} (h : E.length = N) : sv E 0 N = val E := by rw [← h, sv_all]

theorem St3.plus {w0 ws w : World} {bz o e t N : Nat} {Z : List Nat} {vo ve vt : Nat} (h : St3 w0 ws w bz o e t N Z vo ve vt) (hN : N ≤ 1125899906842624) (p : Nat) {va : Value} {A : List Nat} (hA : Arg w va A) (hoff : Off va e 0 (0 + N)) (hp : p = ve + val A) (hfit : p < 18446744073709551616 ^ N) :
    Calls Tryd.prog 82 #[.slice (some ⟨e, 0, none⟩) N N, va] w fun en w' => en = .returned (.tuple #[]) ∧ St3 w0 ws w' bz o e t N Z vo p vt := by
  obtain ⟨E, h1, h2, h3, h4⟩ := h.he
  have := plus_any e 0 N N E va A w h1 h2 hA hoff (by omega) (Nat.le_refl _) (by omega) (by rw [sv_full h3, h4]; omega)
  rw [sv_full h3, h4, ← hp] at this
  exact this.mono fun en w' hd => h.up h3 hd

theorem St3.minus {w0 ws w : World} {bz o e t N : Nat} {Z : List Nat} {vo ve vt : Nat} (h : St3 w0 ws w bz o e t N Z vo ve vt) (hN : N ≤ 1125899906842624) (p : Nat) {va : Value} {A : List Nat} (hA : Arg w va A) (hoff : Off va e 0 (0 + N)) (hp : ve = p + val A) :
    Calls Tryd.prog 84 #[.slice (some ⟨e, 0, none⟩) N N, va] w fun en w' => en = .returned (.tuple #[]) ∧ St3 w0 ws w' bz o e t N Z vo p vt := by
  obtain ⟨E, h1, h2, h3, h4⟩ := h.he
  have := minus_any e 0 N N E va A w h1 h2 hA hoff (by omega) (Nat.le_refl _) (by omega) (by rw [sv_full h3, h4]; omega)
  rw [sv_full h3, h4, show ve - val A = p by omega] at this
  exact this.mono fun en w' hd => h.up h3 hd

theorem St3.minusTimes {w0 ws w : World} {bz o e t N : Nat} {Z : List Nat} {vo ve vt : Nat} (h : St3 w0 ws w bz o e t N Z vo ve vt) (hN : N ≤ 1125899906842624) (p k : Nat) {va : Value} {A : List Nat} (hA : Arg w va A) (hoff : Off va e 0 (0 + N)) (hp : ve = p + val A * k) (hk0 : 0 < k) (hk : k < 18446744073709551616) :
    Calls Tryd.prog 85 #[.slice (some ⟨e, 0, none⟩) N N, va, .int .u64 k] w fun en w' => en = .returned (.tuple #[]) ∧ St3 w0 ws w' bz o e t N Z vo p vt := by
  obtain ⟨E, h1, h2, h3, h4⟩ := h.he
  have := minusTimes_any e 0 N N E va A k w h1 h2 hA hoff (by omega) (Nat.le_refl _) (by omega) hk0 hk (by rw [sv_full h3, h4]; omega)
  rw [sv_full h3, h4, show ve - val A * k = p by omega] at this
  exact this.mono fun en w' hd => h.up h3 hd

theorem St3.half {w0 ws w : World} {bz o e t N : Nat} {Z : List Nat} {vo ve vt : Nat} (h : St3 w0 ws w bz o e t N Z vo ve vt) (hN : N ≤ 1125899906842624) (p : Nat) (hp : ve = 2 * p) :
    Calls Tryd.prog 83 #[.slice (some ⟨e, 0, none⟩) N N] w fun en w' => en = .returned (.tuple #[]) ∧ St3 w0 ws w' bz o e t N Z vo p vt := by
  obtain ⟨E, h1, h2, h3, h4⟩ := h.he
  have := halfOf_any e 0 N N E w h1 h2 (by omega) (Nat.le_refl _) (by omega)
  rw [sv_full h3, h4, show ve / 2 = p by omega] at this
  exact this.mono fun en w' hd => h.up h3 hd

theorem St3.third {w0 ws w : World} {bz o e t N : Nat} {Z : List Nat} {vo ve vt : Nat} (h : St3 w0 ws w bz o e t N Z vo ve vt) (hN : N ≤ 1125899906842624) (p : Nat) (hp : ve = 3 * p) :
    Calls Tryd.prog 86 #[.slice (some ⟨e, 0, none⟩) N N] w fun en w' => en = .returned (.tuple #[]) ∧ St3 w0 ws w' bz o e t N Z vo p vt := by
  obtain ⟨E, h1, h2, h3, h4⟩ := h.he
  have := thirdOf_any e 0 N N E w h1 h2 (by omega) (Nat.le_refl _) (by omega) (by rw [sv_full h3, h4]; omega)
  rw [sv_full h3, h4, show ve / 3 = p by omega] at this
  exact this.mono fun en w' hd => h.up h3 hd

/-- A piece more, at a place: the whole goes up by so much. -/
theorem St3.add {w0 ws w : World} {bz o e t N : Nat} {Z : List Nat} {vo ve vt : Nat} (h : St3 w0 ws w bz o e t N Z vo ve vt) (zo n k cap : Nat) {va : Value} {A : List Nat} (hA : Arg w va A) (hoff : Off va bz (zo + k) (zo + k + (n - k))) (hk : k ≤ n) (hz : zo + n ≤ Z.length) (hc1 : n - k ≤ cap) (hc2 : cap ≤ 9223372036854775807)
    (tot : Nat) (hle : sv Z zo n + 18446744073709551616 ^ k * val A ≤ tot) (htot : tot < 18446744073709551616 ^ n) :
    Calls Tryd.prog 82 #[.slice (some ⟨bz, zo + k, none⟩) (n - k) cap, va] w fun en w' => en = .returned (.tuple #[]) ∧ ∃ Z', St3 w0 ws w' bz o e t N Z' vo ve vt ∧ Out Z Z' zo (zo + n) ∧ sv Z' zo n = sv Z zo n + 18446744073709551616 ^ k * val A := by
  have hfit := pieces_fit Z zo k n (val A) tot hk hz hle htot
  have := plus_any bz (zo + k) (n - k) cap Z va A w h.blk h.lz hA hoff (by omega) hc1 hc2 hfit
  refine this.mono fun en w' hd => ?_
  obtain ⟨he, Z', h1, h2, h3⟩ := h.upz hd
  rw [show zo + k + (n - k) = zo + n by omega] at h2
  exact ⟨he, Z', h1, h2.wider (by omega) (Nat.le_refl _), pieces_add Z Z' zo k n _ hk hz h2 h3⟩

end Go.Proofs.YtmloigbacfllhaaDoor
