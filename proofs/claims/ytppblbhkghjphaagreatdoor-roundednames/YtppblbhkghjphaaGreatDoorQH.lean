/- The reference's test of new memory: the state of its lists. -/
import Derived.Test.YtppblbhkghjphaaGreatDoorQG
import Derived.Maps.AppendAt
namespace Go.Proofs.YtppblbhkghjphaaGreatDoor
open Go.RowKit
open Lm

abbrev nilV : Value := .slice none 0 0

/-- One row turned. -/
def upd (rows : Nat → List Nat) (i : Nat) (r : List Nat) : Nat → List Nat := fun m => if m = i then r else rows m

theorem upd_same (rows : Nat → List Nat) (i : Nat) (r : List Nat) : upd rows i r i = r := by simp [upd]
theorem upd_other (rows : Nat → List Nat) (i m : Nat) (r : List Nat) (h : m ≠ i) : upd rows i r m = rows m := by simp [upd, h]

/-- Lists that lie apart from each other, and the list of them. -/
structure St (w : World) (base L : Nat) (vs : List Value) (rows : Nat → List Nat) : Prop where
  list : w.heap[L]? = some (.cells vs.toArray 23 (0, 0))
  row : ∀ i, i < vs.length → Ans w base (vs.getD i nilV) (rows i)
  apart : ∀ i j, i < vs.length → j < vs.length → i ≠ j → (vs.getD i nilV).ownBlock = none ∨ (vs.getD i nilV).ownBlock ≠ (vs.getD j nilV).ownBlock

theorem St.cell {w : World} {base L : Nat} {vs : List Value} {rows : Nat → List Nat} (h : St w base L vs rows) (i : Nat) (hi : i < vs.length) : w.cell? ⟨L, i, none⟩ = some (vs.getD i nilV) := by
  simp [World.cell?, h.list, hi, List.getD]

theorem St.free {w : World} {base L : Nat} {vs : List Value} {rows : Nat → List Nat} (h : St w base L vs rows) (i : Nat) : w.frozen? ⟨L, i, none⟩ = false := by
  simp [World.frozen?, h.list]

theorem Ans.ne {w : World} {base L : Nat} {v : Value} {zs : List Nat} {vs : Array Value} (h : Ans w base v zs) (hl : w.heap[L]? = some (.cells vs 23 (0, 0))) : v.ownBlock ≠ some L := by
  obtain ⟨_, h2⟩ := h.own
  rcases h2 with ⟨rfl, _⟩ | ⟨g, cap, cur, rfl, _, hh, _⟩
  · simp [Value.ownBlock]
  · intro e
    simp [Value.ownBlock] at e
    subst e
    rw [hl] at hh
    simp at hh

theorem Ans.stored {w : World} {base g cap : Nat} {zs : List Nat} (h : Ans w base (.slice (some ⟨g, 0, none⟩) zs.length cap) zs) (j z : Nat) (hz : z < 18446744073709551616) : Ans (w.setCell ⟨g, j, none⟩ (.int .u64 (z : Int))) base (.slice (some ⟨g, 0, none⟩) (zs.set j z).length cap) (zs.set j z) := by
  refine ⟨?_, limbs_set h.limbs _ _ hz⟩
  have := (h.own.stored j (.int .u64 (z : Int))).1
  rw [List.length_set, List.map_set]
  exact this

theorem St.store {w : World} {base L : Nat} {vs : List Value} {rows : Nat → List Nat} (h : St w base L vs rows) (i g cap : Nat) (hi : i < vs.length) (hv : vs.getD i nilV = .slice (some ⟨g, 0, none⟩) (rows i).length cap) (j z : Nat) (hz : z < 18446744073709551616) :
    St (w.setCell ⟨g, j, none⟩ (.int .u64 (z : Int))) base L vs (upd rows i ((rows i).set j z)) := by
  have hri := h.row i hi
  have hne := hri.ne h.list
  rw [hv] at hne
  have hgL : L ≠ g := fun e => hne (by simp [Value.ownBlock, e])
  refine ⟨?_, fun m hm => ?_, h.apart⟩
  · rw [Below.heap_setCell _ _ _ _ hgL]; exact h.list
  · by_cases e : m = i
    · subst e
      rw [upd_same, hv]
      rw [hv] at hri
      have := hri.stored j z hz
      rw [List.length_set] at this
      exact this
    · rw [upd_other _ _ _ _ e]
      refine ⟨ownsRow_setCell_other (h.row m hm).own ?_ _, (h.row m hm).limbs⟩
      have := h.apart m i hm hi e
      rw [hv] at this
      rcases this with h1 | h1
      · rw [h1]; simp
      · simpa [Value.ownBlock] using h1

theorem fill_set (r : List Nat) (j c : Nat) (h : j < r.length) : (List.replicate j c ++ r.drop j).set j c = List.replicate (j + 1) c ++ r.drop (j + 1) := by
  rw [List.drop_eq_getElem_cons h]
  have := set_mid (List.replicate j c) (r.drop (j + 1)) r[j] c
  rw [List.length_replicate] at this
  rw [this, ← List.replicate_succ']

theorem fill_length (r : List Nat) (j c : Nat) (h : j ≤ r.length) : (List.replicate j c ++ r.drop j).length = r.length := by
  simp; omega

end Go.Proofs.YtppblbhkghjphaaGreatDoor

/- The reference's test of new memory: lists that lie apart can be written over and grow. -/
namespace Go.Proofs.YtppblbhkghjphaaGreatDoor
open Go.RowKit
open Lm

def five (b : Nat) : List Nat := [b, b + 1, b + 2, b + 3, b + 4]

theorem St.grow {w w2 : World} {base L : Nat} {vs : List Value} {rows : Nat → List Nat} (h : St w base L vs rows) (k : Nat) (hk : k < vs.length) (o : Obj) (v' : Value) (r : List Nat)
    (ho : w2.ownsRow base 32 1 v' r.length (r.map lv)) (hl : Limbs r) (hg : (w.alloc o).grownBy w2 (vs.getD k nilV).ownBlock) (hat : v'.ownBlock = (vs.getD k nilV).ownBlock ∨ v'.ownBlock = some (w.alloc o).heap.size) :
    St (w2.setCell ⟨L, k, none⟩ v') base L (vs.set k v') (upd rows k r) := by
  have hL := lt_of_block h.list
  have hsz : (w.alloc o).heap.size = w.heap.size + 1 := by simp
  have hneL := (h.row k hk).ne h.list
  have hL2 : w2.heap[L]? = some (.cells vs.toArray 23 (0, 0)) := by
    have e1 : (w.alloc o).heap[L]? = w.heap[L]? := Below.heap_alloc w o L hL
    rw [hg.block L (by omega) (fun e => hneL e.symm), e1]; exact h.list
  have hneL' : v'.ownBlock ≠ some L := by
    rcases hat with e | e
    · rw [e]; exact hneL
    · rw [e]; intro e2; simp at e2; omega
  refine ⟨?_, fun m hm => ?_, fun i j hi hj hij => ?_⟩
  · have hlt := lt_of_block hL2
    have h' : w2.heap[L] = .cells vs.toArray 23 (0, 0) := by simpa [Array.getElem?_eq_getElem hlt] using hL2
    show (w2.heap.modify L _)[L]? = _
    rw [Array.getElem?_eq_getElem (by simpa using hlt), Array.getElem_modify_self, h']
    simp
  · rw [List.length_set] at hm
    by_cases e : m = k
    · subst e
      have ev : (vs.set m v').getD m nilV = v' := by simp [List.getD, hm]
      rw [upd_same, ev]
      exact ⟨ownsRow_setCell_other ho hneL' _, hl⟩
    · have ev : (vs.set k v').getD m nilV = vs.getD m nilV := by
        simp [List.getD, List.getElem?_set_ne (Ne.symm e)]
      rw [upd_other _ _ _ _ e, ev]
      have hr := h.row m hm
      refine ⟨ownsRow_setCell_other (((hr.own).alloc o).kept hg ?_) (hr.ne h.list) _, hr.limbs⟩
      exact h.apart m k hm hk e
  · rw [List.length_set] at hi hj
    have hlt : ∀ m, m < vs.length → ∀ g, (vs.getD m nilV).ownBlock = some g → g < w.heap.size := fun m hm g hg => ((h.row m hm).own.lt g hg).2
    by_cases e1 : i = k
    · subst e1
      have ev : (vs.set i v').getD i nilV = v' := by simp [List.getD, hi]
      have ev2 : (vs.set i v').getD j nilV = vs.getD j nilV := by simp [List.getD, List.getElem?_set_ne hij]
      rw [ev, ev2]
      rcases hat with e | e
      · rw [e]; exact h.apart i j hi hj hij
      · right
        rw [e]
        intro e2
        have := hlt j hj _ e2.symm
        omega
    · by_cases e2 : j = k
      · subst e2
        have ev : (vs.set j v').getD j nilV = v' := by simp [List.getD, hj]
        have ev2 : (vs.set j v').getD i nilV = vs.getD i nilV := by simp [List.getD, List.getElem?_set_ne (Ne.symm e1)]
        rw [ev, ev2]
        rcases hat with e | e
        · rw [e]; exact h.apart i j hi hj hij
        · right
          rw [e]
          intro e3
          have := hlt i hi _ e3
          omega
      · have ev : (vs.set k v').getD i nilV = vs.getD i nilV := by simp [List.getD, List.getElem?_set_ne (Ne.symm e1)]
        have ev2 : (vs.set k v').getD j nilV = vs.getD j nilV := by simp [List.getD, List.getElem?_set_ne (Ne.symm e2)]
        rw [ev, ev2]
        exact h.apart i j hi hj hij

theorem St.congr {w : World} {base L : Nat} {vs : List Value} {rows rows' : Nat → List Nat} (h : St w base L vs rows) (he : ∀ i, i < vs.length → rows i = rows' i) : St w base L vs rows' :=
  ⟨h.list, fun i hi => by rw [← he i hi]; exact h.row i hi, h.apart⟩

/-- What the first loop leaves. -/
def over (rows : Nat → List Nat) (m : Nat) : List Nat := List.replicate (rows m).length (m % 251 + 1)

end Go.Proofs.YtppblbhkghjphaaGreatDoor

/- The reference's test of new memory: its walk. -/
namespace Go.Proofs.YtppblbhkghjphaaGreatDoor
open Go.RowKit
open Lm

/-- What the first loop leaves when k lists are done. -/
def overTo (rows : Nat → List Nat) (k m : Nat) : List Nat := if m < k then over rows m else rows m

theorem overTo_step (rows : Nat → List Nat) (k m : Nat) (h : m ≠ k) : overTo rows k m = overTo rows (k + 1) m := by
  unfold overTo
  by_cases h1 : m < k
  · rw [if_pos h1, if_pos (by omega)]
  · rw [if_neg h1, if_neg (by omega)]

theorem row_limbs (rows : Nat → List Nat) (k : Nat) (hk : k ≤ 1000) : Limbs (over rows k ++ five (300 + 5 * k)) := by
  intro z hz
  rcases List.mem_append.1 hz with h | h
  · have := List.eq_of_mem_replicate h
    omega
  · simp only [five, List.mem_cons, List.not_mem_nil, or_false] at h
    omega

theorem row_low (rows : Nat → List Nat) (k j : Nat) (h : j < (rows k).length) : (over rows k ++ five (300 + 5 * k)).getD j 0 = k % 251 + 1 := by
  have hl : j < (over rows k).length := by simpa [over] using h
  rw [List.getD, List.getElem?_append_left hl]
  simp [over, h]

theorem row_high (rows : Nat → List Nat) (k j : Nat) (h : (rows k).length ≤ j) (h2 : j < (rows k).length + 5) : (over rows k ++ five (300 + 5 * k)).getD j 0 = 300 + 5 * k + (j - (rows k).length) := by
  obtain ⟨i, rfl⟩ : ∃ i, j = (rows k).length + i := ⟨j - (rows k).length, by omega⟩
  have hl : (over rows k).length ≤ (rows k).length + i := by simp [over]
  rw [List.getD, List.getElem?_append_right hl]
  match i, show i < 5 by omega with
  | 0, _ => simp [over, five]
  | 1, _ => simp [over, five]
  | 2, _ => simp [over, five]
  | 3, _ => simp [over, five]
  | 4, _ => simp [over, five]

theorem own_shape {w : World} {base e n : Nat} {v : Value} {xs : List Value} (h : w.ownsRow base e 1 v n xs) (hn : 0 < n) : ∃ g cap, v = .slice (some ⟨g, 0, none⟩) n cap := by
  rcases h.2 with ⟨_, h0⟩ | ⟨g, cap, _, hv, _⟩
  · omega
  · exact ⟨g, cap, hv⟩

theorem St.kept {w w2 : World} {base L : Nat} {vs : List Value} {rows : Nat → List Nat} {v : Value} (h : St w base L vs rows) (k : Nat) (hk : k < vs.length) (hv : vs.getD k nilV = v) (o : Obj) (hg : (w.alloc o).grownBy w2 v.ownBlock) :
    w2.cell? ⟨L, k, none⟩ = some v ∧ w2.frozen? ⟨L, k, none⟩ = false := by
  have hL := lt_of_block h.list
  have hneL := (h.row k hk).ne h.list
  rw [hv] at hneL
  have hsz : (w.alloc o).heap.size = w.heap.size + 1 := by simp
  have e : w2.heap[L]? = w.heap[L]? := by
    rw [hg.block L (by omega) (fun e => hneL e.symm)]; exact Below.heap_alloc w o L hL
  refine ⟨?_, ?_⟩
  · rw [World.cell?_of_block (w := w) (a := ⟨L, k, none⟩) e, h.cell k hk, hv]
  · rw [World.frozen?_of_block (w := w) (a := ⟨L, k, none⟩) e]; exact h.free k

end Go.Proofs.YtppblbhkghjphaaGreatDoor

/- Own, of answers that were made one after another; Lend and Kept, as the laws use them. -/
namespace Go.Proofs.YtppblbhkghjphaaGreatDoor
open Go.RowKit
open Lm

/-- Answers one after another: each one's block lies below those of the later ones. -/
def Chain (w : World) : Nat → List Value → List (List Nat) → Prop
  | _, [], [] => True
  | b, v :: vs, r :: rs => ∃ b', (b ≤ b' ∧ b' ≤ w.heap.size) ∧ Ans w b v r ∧ (∀ g, v.ownBlock = some g → g < b') ∧ Chain w b' vs rs
  | _, _, _ => False

theorem Ans.top {w : World} {base : Nat} {v : Value} {zs : List Nat} (h : Ans w base v zs) : ∀ g, v.ownBlock = some g → g < w.heap.size := fun g hg => (h.own.lt g hg).2

theorem Ans.slice {w : World} {base : Nat} {v : Value} {zs : List Nat} (h : Ans w base v zs) : ∃ ao n cap, v = .slice ao n cap := by
  rcases h.form with ⟨rfl, _⟩ | ⟨g, cap, rfl, _⟩
  · exact ⟨_, _, _, rfl⟩
  · exact ⟨_, _, _, rfl⟩

theorem blen_val_le (zs : List Nat) (h : Limbs zs) : blen (val zs) ≤ 64 * zs.length := by
  rw [blen_le_iff, Nat.mul_comm]
  have := val_lt h
  rwa [W_pow] at this

theorem hid_below {w a b : World} (h : Hid (Below w.heap.size w a)) (hb : Below a.heap.size a b) : Hid (Below w.heap.size w b) := h.out.trans (hb.mono h.out.size)

theorem Same.top {a b : World} (h : Same a b) : Below a.heap.size a b := h.below _

theorem Arg.bits {w : World} {v : Value} {zs : List Nat} (h : Arg w v zs) (hf : zs.length ≤ 17592186043904) : blen (val zs) ≤ 1125899906809856 := by
  have := blen_val_le zs h.limbs
  omega

theorem Chain.length {w : World} : ∀ {b : Nat} {vs : List Value} {rs : List (List Nat)}, Chain w b vs rs → vs.length = rs.length
  | _, [], [], _ => rfl
  | _, _ :: _, _ :: _, ⟨_, _, _, _, h⟩ => by simp [h.length]
  | _, [], _ :: _, h => h.elim
  | _, _ :: _, [], h => h.elim

theorem Chain.row {w : World} : ∀ {b : Nat} {vs : List Value} {rs : List (List Nat)}, Chain w b vs rs → ∀ i, i < vs.length → Ans w b (vs.getD i nilV) (rs.getD i [])
  | _, [], _, _, i, hi => absurd hi (by simp)
  | _, _ :: _, [], h, _, _ => h.elim
  | _, v :: vs, r :: rs, ⟨b', h1, h2, h3, h4⟩, i, hi => by
    cases i with
    | zero => exact h2
    | succ i => exact (h4.row i (by simpa using hi)).base h1.1

theorem Chain.from {w : World} {b : Nat} {vs : List Value} {rs : List (List Nat)} (h : Chain w b vs rs) (i : Nat) (hi : i < vs.length) (g : Nat) (hg : (vs.getD i nilV).ownBlock = some g) : b ≤ g := ((h.row i hi).own.lt g hg).1

theorem Chain.apart {w : World} : ∀ {b : Nat} {vs : List Value} {rs : List (List Nat)}, Chain w b vs rs → ∀ i j, i < vs.length → j < vs.length → i ≠ j → (vs.getD i nilV).ownBlock = none ∨ (vs.getD i nilV).ownBlock ≠ (vs.getD j nilV).ownBlock
  | _, [], _, _, i, _, hi, _, _ => absurd hi (by simp)
  | _, _ :: _, [], h, _, _, _, _, _ => h.elim
  | _, v :: vs, r :: rs, ⟨b', h1, h2, h3, h4⟩, i, j, hi, hj, hij => by
    cases i with
    | zero =>
      cases j with
      | zero => exact absurd rfl hij
      | succ j =>
        show v.ownBlock = none ∨ v.ownBlock ≠ (vs.getD j nilV).ownBlock
        cases hv : v.ownBlock with
        | none => exact .inl rfl
        | some g =>
          refine .inr fun e => ?_
          have a := h3 g hv
          have b := h4.from j (by simpa using hj) g e.symm
          omega
    | succ i =>
      cases j with
      | zero =>
        show (vs.getD i nilV).ownBlock = none ∨ (vs.getD i nilV).ownBlock ≠ v.ownBlock
        cases hv : (vs.getD i nilV).ownBlock with
        | none => exact .inl rfl
        | some g =>
          refine .inr fun e => ?_
          have a := h3 g e.symm
          have b := h4.from i (by simpa using hi) g hv
          omega
      | succ j => exact h4.apart i j (by simpa using hi) (by simpa using hj) (by omega)

theorem Chain.below {w w' : World} (hb : Below w.heap.size w w') : ∀ {b : Nat} {vs : List Value} {rs : List (List Nat)}, Chain w b vs rs → Chain w' b vs rs
  | _, [], [], _ => trivial
  | _, _ :: _, _ :: _, ⟨b', h1, h2, h3, h4⟩ => ⟨b', ⟨h1.1, Nat.le_trans h1.2 hb.size⟩, h2.below hb, h3, Chain.below hb h4⟩
  | _, [], _ :: _, h => h.elim
  | _, _ :: _, [], h => h.elim

theorem Chain.snoc {w w' : World} {v : Value} {r : List Nat} (hb : Below w.heap.size w w') (ha : Ans w' w.heap.size v r) : ∀ {b : Nat} {vs : List Value} {rs : List (List Nat)}, Chain w b vs rs → b ≤ w.heap.size → Chain w' b (vs ++ [v]) (rs ++ [r])
  | _, [], [], _, hl => ⟨w'.heap.size, ⟨Nat.le_trans hl hb.size, Nat.le_refl _⟩, ha.base hl, ha.top, trivial⟩
  | _, _ :: _, _ :: _, ⟨b', h1, h2, h3, h4⟩, _ => ⟨b', ⟨h1.1, Nat.le_trans h1.2 hb.size⟩, h2.below hb, h3, Chain.snoc hb ha h4 h1.2⟩
  | _, [], _ :: _, h, _ => h.elim
  | _, _ :: _, [], h, _ => h.elim

theorem Chain.one {w : World} {b : Nat} {v : Value} {r : List Nat} (h : Ans w b v r) (hb : b ≤ w.heap.size) : Chain w b [v] [r] := ⟨w.heap.size, ⟨hb, Nat.le_refl _⟩, h, h.top, trivial⟩

/-- A list that was lent: it lies within a greater one. -/
def Lent (w : World) (vw : Value) (zs : List Nat) : Prop := ∃ g, vw = .slice (some ⟨g, 0, none⟩) (zs.length + 4) (zs.length + 4) ∧ Blk w g (lent zs)

theorem Lent.below {w w' : World} {vw : Value} {zs : List Nat} (h : Lent w vw zs) (hb : Below w.heap.size w w') : Lent w' vw zs := by
  obtain ⟨g, h1, h2⟩ := h
  refine ⟨g, h1, ?_⟩
  unfold Blk
  rw [hb.block g h2.lt]; exact h2

theorem Res.few {w : World} {base : Nat} {v : Value} {c : Int} {rs : List Nat} {s : Nat} (_ : Ans w base v rs) (h : (c = 0 ∧ val rs = s ∧ tr rs = rs ∧ blen s ≤ 67108864) ∨ (c = 3 ∧ rs = [] ∧ 67108864 < blen s)) : rs.length ≤ 1048576 := by
  rcases h with ⟨_, hv, ht, hs⟩ | ⟨_, rfl, _⟩
  · have := few_limbs rs 1048576 (by rw [hv]; omega)
    rwa [ht] at this
  · simp

end Go.Proofs.YtppblbhkghjphaaGreatDoor
