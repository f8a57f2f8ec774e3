/- Memory: a block of limbs known whole, the limbs of an argument, the limbs of an answer; math\bits' Add64 and Sub64 at this program. -/
import Derived.Test.YtmloigbacfllhaaDoorNatA
import Derived.Test.YtmloigbacfllhaaDoorShelf
import Derived.Laws.Externs
import Derived.Shelf.Spec.BitsCarry
namespace Go.Proofs.YtmloigbacfllhaaDoor
open Go.RowKit
open Lm

/-- A limb as a value. -/
def lv (z : Nat) : Value := .int .u64 (z : Int)

/-- A block of limbs, known whole. -/
def Blk (w : World) (b : Nat) (xs : List Nat) : Prop := w.heap[b]? = some (.cells (xs.map lv).toArray 38 (0, 0))

theorem Blk.lt {w : World} {b : Nat} {xs : List Nat} (h : Blk w b xs) : b < w.heap.size := lt_of_block h

theorem Blk.cell {w : World} {b : Nat} {xs : List Nat} (h : Blk w b xs) (k : Nat) (hk : k < xs.length) : w.cell? ⟨b, k, none⟩ = some (.int .u64 ((xs.getD k 0 : Nat) : Int)) := by
  simp [World.cell?, show w.heap[b]? = _ from h, hk, lv, List.getD]

theorem Blk.free {w : World} {b : Nat} {xs : List Nat} (h : Blk w b xs) (k : Nat) : w.frozen? ⟨b, k, none⟩ = false := by
  simp [World.frozen?, show w.heap[b]? = _ from h]

theorem Blk.set {w : World} {b : Nat} {xs : List Nat} (h : Blk w b xs) (k z : Nat) : Blk (w.setCell ⟨b, k, none⟩ (.int .u64 (z : Int))) b (xs.set k z) := by
  have hlt := h.lt
  have h' : w.heap[b] = .cells (xs.map lv).toArray 38 (0, 0) := by simpa [Array.getElem?_eq_getElem hlt] using (show w.heap[b]? = _ from h)
  show (w.heap.modify b _)[b]? = _
  rw [Array.getElem?_eq_getElem (by simpa using hlt), Array.getElem_modify_self, h']
  simp [List.map_set, lv]

theorem Blk.below {w w' : World} {b B : Nat} {xs : List Nat} (h : Blk w b xs) (hb : Below B w w') (hB : b < B) : Blk w' b xs := by
  unfold Blk; rw [hb.block b hB]; exact h

theorem Blk.other {w : World} {b : Nat} {xs : List Nat} (h : Blk w b xs) (a : Addr) (u : Value) (hne : b ≠ a.block) : Blk (w.setCell a u) b xs := by
  unfold Blk; rw [Below.heap_setCell _ _ _ _ hne]; exact h

theorem Lies.below {w w' : World} {ao : Option Addr} {zs : List Nat} (h : Lies w ao zs) (hb : Below w.heap.size w w') : Lies w' ao zs := by
  rcases h with rfl | ⟨b, off, rfl, hc⟩
  · exact .inl rfl
  · by_cases h0 : zs = []
    · exact .inl h0
    · refine .inr ⟨b, off, rfl, fun k hk => ?_⟩
      rw [hb.cell (p := ⟨b, off + k, none⟩) ?_]; exact hc k hk
      have hk := hc k hk
      show b < w.heap.size
      rcases Nat.lt_or_ge b w.heap.size with h' | h'
      · exact h'
      · simp [World.cell?, Array.getElem?_eq_none h'] at hk

theorem Lies.block {w : World} {b off : Nat} {zs : List Nat} (h : Lies w (some ⟨b, off, none⟩) zs) (hz : 0 < zs.length) : b < w.heap.size := by
  rcases h with rfl | ⟨b', off', he, hc⟩
  · simp at hz
  · cases he
    have hk := hc 0 hz
    rcases Nat.lt_or_ge b w.heap.size with h' | h'
    · exact h'
    · simp [World.cell?, Array.getElem?_eq_none h'] at hk

/-- An argument: limbs that can be read. -/
structure Arg (w : World) (v : Value) (zs : List Nat) : Prop where
  form : ∃ ao cap, v = .slice ao zs.length cap ∧ zs.length ≤ cap ∧ cap ≤ 9223372036854775807 ∧ Lies w ao zs
  limbs : Limbs zs
  few : zs.length ≤ 1125899906842624
  nz : ∀ n c, v = .slice none n c → c = 0

theorem Arg.below {w w' : World} {v : Value} {zs : List Nat} (h : Arg w v zs) (hb : Below w.heap.size w w') : Arg w' v zs := by
  obtain ⟨ao, cap, h1, h2, h3, h4⟩ := h.form
  exact ⟨⟨ao, cap, h1, h2, h3, h4.below hb⟩, h.limbs, h.few, h.nz⟩

theorem Arg.trim {w : World} {ao : Option Addr} {cap : Nat} {zs : List Nat} (h : Arg w (.slice ao zs.length cap) zs) : Arg w (.slice ao (tr zs).length cap) (tr zs) := by
  have hle := tr_length_le zs
  obtain ⟨ao', cap', h1, h2, h3, h4⟩ := h.form
  cases h1
  exact ⟨⟨ao, cap, rfl, by omega, h3, h4.tr⟩, limbs_tr h.limbs, by have := h.few; omega, fun n c e => by cases e; exact h.nz _ _ rfl⟩

/-- An answer: limbs in new memory, from block 'base' on: the value owns them. -/
structure Ans (w : World) (base : Nat) (v : Value) (zs : List Nat) : Prop where
  own : w.ownsRow base 38 1 v zs.length (zs.map lv)
  limbs : Limbs zs

theorem Ans.nil (w : World) (base : Nat) : Ans w base (.slice none 0 0) [] := ⟨World.ownsRow_nil _ _ _ _, by intro z hz; cases hz⟩

theorem Ans.of_blk {w : World} {base g : Nat} {zs xs : List Nat} (hg : base ≤ g) (hb : Blk w g xs) (hz : zs = xs.take zs.length) (hl : zs.length ≤ xs.length) (hm : xs.length ≤ 9223372036854775807) (hlim : Limbs zs) :
    Ans w base (.slice (some ⟨g, 0, none⟩) zs.length xs.length) zs := by
  refine ⟨⟨by simp, .inr ⟨g, xs.length, (xs.map lv).toArray, rfl, hg, hb, hl, by unfold maxLen; omega, by simp, ?_⟩⟩, hlim⟩
  rw [Nat.mul_one]
  show (xs.map lv).take zs.length = zs.map lv
  rw [← List.map_take, ← hz]

/-- What an answer looks like. -/
theorem Ans.form {w : World} {base : Nat} {v : Value} {zs : List Nat} (h : Ans w base v zs) : (v = .slice none 0 0 ∧ zs = []) ∨
    ∃ g cap, v = .slice (some ⟨g, 0, none⟩) zs.length cap ∧ base ≤ g ∧ g < w.heap.size ∧ zs.length ≤ cap ∧ cap ≤ 9223372036854775807 ∧ (∀ k, w.frozen? ⟨g, k, none⟩ = false) ∧ ∀ k, k < zs.length → w.cell? ⟨g, k, none⟩ = some (.int .u64 ((zs.getD k 0 : Nat) : Int)) := by
  have ho := h.own
  obtain ⟨_, h2⟩ := h.own
  rcases h2 with ⟨h1, h2⟩ | ⟨g, cap, cur, rfl, hg, hh, hn, hcm, hs, ht⟩
  · exact .inl ⟨h1, List.length_eq_zero_iff.1 h2⟩
  · refine .inr ⟨g, cap, rfl, hg, lt_of_block hh, hn, by unfold maxLen at hcm; omega, fun k => ho.frozenAt k, fun k hk => ?_⟩
    rw [ho.cellAt k (by omega)]
    simp [hk, lv, List.getD]

theorem Ans.arg {w : World} {base : Nat} {v : Value} {zs : List Nat} (h : Ans w base v zs) (hf : zs.length ≤ 1125899906842624) : Arg w v zs := by
  rcases h.form with ⟨rfl, rfl⟩ | ⟨g, cap, rfl, _, _, hl, hm, _, hc⟩
  · exact ⟨⟨none, 0, rfl, by simp, by simp, .inl rfl⟩, h.limbs, hf, fun n c e => by cases e; rfl⟩
  · exact ⟨⟨_, _, rfl, hl, hm, .inr ⟨g, 0, rfl, fun k hk => by rw [Nat.zero_add]; exact hc k hk⟩⟩, h.limbs, hf, fun n c e => by cases e⟩

theorem Ans.below {w w' : World} {base : Nat} {v : Value} {zs : List Nat} (h : Ans w base v zs) (hb : Below w.heap.size w w') : Ans w' base v zs := by
  refine ⟨?_, h.limbs⟩
  obtain ⟨h1, h2⟩ := h.own
  refine ⟨h1, ?_⟩
  rcases h2 with h2 | ⟨g, cap, cur, hv, hg, hh, r⟩
  · exact .inl h2
  · exact .inr ⟨g, cap, cur, hv, hg, by rw [hb.block g (lt_of_block hh)]; exact hh, r⟩

theorem Ans.base {w : World} {base base' : Nat} {v : Value} {zs : List Nat} (h : Ans w base v zs) (hb : base' ≤ base) : Ans w base' v zs := by
  refine ⟨?_, h.limbs⟩
  obtain ⟨h1, h2⟩ := h.own
  refine ⟨h1, ?_⟩
  rcases h2 with h2 | ⟨g, cap, cur, hv, hg, r⟩
  · exact .inl h2
  · exact .inr ⟨g, cap, cur, hv, Nat.le_trans hb hg, r⟩

/-- Without the noughts at the top. -/
theorem Ans.trim {w : World} {base : Nat} {ao : Option Addr} {cap : Nat} {zs : List Nat} (h : Ans w base (.slice ao zs.length cap) zs) : Ans w base (.slice ao (tr zs).length cap) (tr zs) := by
  refine ⟨?_, limbs_tr h.limbs⟩
  have hle := tr_length_le zs
  obtain ⟨_, h2⟩ := h.own
  refine ⟨by simp, ?_⟩
  rcases h2 with ⟨h1, h2⟩ | ⟨g, cap', cur, hv, hg, hh, hn, hcm, hs, ht⟩
  · have e : zs = [] := List.length_eq_zero_iff.1 h2
    subst e
    exact .inl ⟨h1, rfl⟩
  · cases hv
    refine .inr ⟨g, cap, cur, rfl, hg, hh, by omega, hcm, hs, ?_⟩
    have e : cur.toList.take ((tr zs).length * 1) = (cur.toList.take (zs.length * 1)).take (tr zs).length := by
      rw [List.take_take, Nat.mul_one, Nat.mul_one, Nat.min_eq_left hle]
    rw [e, ht, ← List.map_take, ← tr_take]

/-- What 'make' lays. -/
theorem Blk.made {w : World} {base n g : Nat} (h : w.ownsRow base 38 1 (.slice (some ⟨g, 0, none⟩) n n) n (madeCells (Value.int .u64 0).cells (n * 1)).toList) : Blk w g (List.replicate n 0) := by
  obtain ⟨_, h2⟩ := h
  rcases h2 with ⟨h2, _⟩ | ⟨g', cap, cur, hv, _, hh, _, _, hs, ht⟩
  · cases h2
  · cases hv
    unfold Blk
    rw [hh]
    have e : cur.toList = (List.replicate n 0).map lv := by
      have : cur.toList.take (n * 1) = cur.toList := List.take_of_length_le (by simp; omega)
      rw [← this, ht]
      show (madeCells #[Value.int .u64 0] (n * 1)).toList = _
      rw [toList_madeCells_one, List.map_replicate, Nat.mul_one]; rfl
    rw [← e]

theorem Tryd.infoU : (Tryd.prog.info? 38).map (fun i => (i.zero, i.size, i.bytes)) = some (some (.int .u64 0), 1, 8) := by kernel_rfl

theorem add64 (x y c : Nat) (hc : c ≤ 1) (w : World) :
    (callFunc 63 #[.int .u64 x, .int .u64 y, .int .u64 c]).run Tryd.prog w =
      .ok (.value (.tuple #[.int .u64 (((x + y + c) % 18446744073709551616 : Nat) : Int), .int .u64 (((x + y + c) / 18446744073709551616 : Nat) : Int)])) w := by
  rw [run_callFunc_extern Tryd.func63 (by kernel_rfl) (by kernel_rfl) (by kernel_rfl) (e := add64Entry) (by kernel_rfl), run_add64 x y c (by omega) (by omega) (by omega) (by omega)]
  simp only [Result.andThen]
  congr 5 <;> omega

theorem add64_0 (x y : Nat) (w : World) :
    (callFunc 63 #[.int .u64 x, .int .u64 y, .int .u64 0]).run Tryd.prog w =
      .ok (.value (.tuple #[.int .u64 (((x + y) % 18446744073709551616 : Nat) : Int), .int .u64 (((x + y) / 18446744073709551616 : Nat) : Int)])) w :=
  add64 x y 0 (by omega) w

end Go.Proofs.YtmloigbacfllhaaDoor
