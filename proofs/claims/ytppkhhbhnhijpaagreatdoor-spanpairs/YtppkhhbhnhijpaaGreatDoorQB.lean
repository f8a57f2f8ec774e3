/- The inner functions of package nat: trim, limb. -/
import Derived.Test.YtppkhhbhnhijpaaGreatDoorChecked
import Derived.Test.YtppkhhbhnhijpaaGreatDoorQA
import Derived.WalkKit
import Derived.WalkLawsBesides
import Derived.Shelf.Small.Wraps
import Derived.Shelf.Strconv.Itoa0
import Derived.Ground.Names2Prog
import Derived.Shelf.Slices.SearchI
import Derived.Test.YtppkhhbhnhijpaaGreatDoorProg
import Derived.Laws.Externs
import Derived.Shelf.Spec.BitsCarry
import Derived.Handy
import Derived.Deep.QuietTactic
import Derived.BigQuiet
import Derived.Deep.RegionHeld3
import Derived.Deep.DrawnRows
namespace Go.Proofs.YtppkhhbhnhijpaaGreatDoor
open Go.RowKit
open Lm

theorem hide {p : Prop} (h : p) : Hid p := h

/-- Limbs lie from an address on. -/
def Lies (w : World) (ao : Option Addr) (zs : List Nat) : Prop :=
  zs = [] ∨ ∃ b off, ao = some ⟨b, off, none⟩ ∧ ∀ k, k < zs.length → w.cell? ⟨b, off + k, none⟩ = some (.int .u64 ((zs.getD k 0 : Nat) : Int))

theorem trim_some (b off cap : Nat) (zs : List Nat) (w : World) (hcap : zs.length ≤ cap) (hmax : cap ≤ 9223372036854775807)
    (hc : ∀ k, k < zs.length → w.cell? ⟨b, off + k, none⟩ = some (.int .u64 ((zs.getD k 0 : Nat) : Int))) :
    Calls Tryz.prog 163 #[.slice (some ⟨b, off, none⟩) zs.length cap] w fun e w' => e = .returned (.slice (some ⟨b, off, none⟩) (tr zs).length cap) ∧ w' = w := by
  go_enter Tryz.func163, Tryz.ntmps163
  go_wp2
  go_loop [3] (fun n => ∃ k : Nat, k ≤ zs.length ∧ n = .int .i64 k ∧ tr (zs.take k) = tr zs) (fun n => (intOf n).toNat)
  case atStart => exact ⟨zs.length, Nat.le_refl _, rfl, by rw [List.take_length]⟩
  case round =>
    obtain ⟨k, hk, rfl, ht⟩ := hrel
    have HT : Hid (tr (zs.take k) = tr zs) := ht
    clear ht
    by_cases h0 : k = 0
    · subst h0
      go_wp2
      go_ret
      have e := HT.out
      simp only [List.take_zero, tr] at e
      rw [← e]
      exact ⟨rfl, rfl⟩
    · obtain ⟨j, rfl⟩ : ∃ j, k = j + 1 := ⟨k - 1, by omega⟩
      have hcj := hc j (by omega)
      clear hc
      by_cases hz : zs.getD j 0 = 0
      · have HZ : Hid (tr (zs.take j) = tr zs) := by rw [← tr_step zs j (by omega) hz]; exact HT.out
        rw [hz] at hcj
        clear hz HT
        go_wp2
        go_round
        case rel => exact ⟨j, by omega, by go_num, HZ.out⟩
        case measure => simp [intOf]
      · have HZ : Hid (tr zs = zs.take (j + 1)) := by rw [← HT.out]; exact tr_stop zs j (by omega) hz
        clear HT
        generalize zs.getD j 0 = z at hcj hz
        have hne : ((z : Int) == 0) = false := by rw [beq_eq_false_iff_ne]; omega
        clear hz
        go_wp2
        go_ret
        rw [HZ.out]
        have e : (zs.take (j + 1)).length = j + 1 := by simp; omega
        rw [e]
        exact ⟨rfl, rfl⟩

/-- An empty list: whatever its address. -/
theorem trim_none (ao : Option Addr) (cap : Nat) (w : World) (_hmax : cap ≤ 9223372036854775807) :
    Calls Tryz.prog 163 #[.slice ao 0 cap] w fun e w' => e = .returned (.slice ao 0 cap) ∧ w' = w := by
  go_enter Tryz.func163, Tryz.ntmps163
  go_wp2
  refine wp_loop_rounds 1 ?_
  rw [rounds_succ]
  go_wp2
  go_ret
  exact ⟨rfl, rfl⟩

theorem trim_any (ao : Option Addr) (cap : Nat) (zs : List Nat) (w : World) (hcap : zs.length ≤ cap) (hmax : cap ≤ 9223372036854775807) (hl : Lies w ao zs) :
    Calls Tryz.prog 163 #[.slice ao zs.length cap] w fun e w' => e = .returned (.slice ao (tr zs).length cap) ∧ w' = w := by
  rcases hl with rfl | ⟨b, off, rfl, hc⟩
  · exact trim_none ao cap w hmax
  · exact trim_some b off cap zs w hcap hmax hc

theorem Lies.tr {w : World} {ao : Option Addr} {zs : List Nat} (h : Lies w ao zs) : Lies w ao (tr zs) := by
  rcases h with rfl | ⟨b, off, rfl, hc⟩
  · exact .inl rfl
  · exact .inr ⟨b, off, rfl, fun k hk => by rw [tr_getD zs k hk]; exact hc k (Nat.lt_of_lt_of_le hk (tr_length_le zs))⟩

/-- A limb, or nought beyond the top. -/
theorem limb_any (ao : Option Addr) (cap : Nat) (zs : List Nat) (i : Nat) (w : World) (hcap : zs.length ≤ cap) (_hmax : cap ≤ 9223372036854775807) (hl : Lies w ao zs) :
    Calls Tryz.prog 176 #[.slice ao zs.length cap, .int .i64 i] w fun e w' => e = .returned (.int .u64 ((zs.getD i 0 : Nat) : Int)) ∧ w' = w := by
  by_cases hi : i < zs.length
  · rcases hl with rfl | ⟨b, off, rfl, hc⟩
    · simp at hi
    · have hci := hc i hi
      clear hc
      generalize zs.getD i 0 = z at hci ⊢
      go_enter Tryz.func176, Tryz.ntmps176
      go_wp2
      go_ret
      exact ⟨rfl, rfl⟩
  · have e : zs.getD i 0 = 0 := by simp [List.getD, Nat.le_of_not_lt hi]
    rw [e]
    clear hl e
    go_enter Tryz.func176, Tryz.ntmps176
    go_wp2
    go_ret
    exact ⟨rfl, rfl⟩

end Go.Proofs.YtppkhhbhnhijpaaGreatDoor

/- Contracts of Go's library, as the kit's own shelf lays them at this translation. -/
namespace Go.Proofs
open Go.Shelf
def Tryz.lays215_ren : Go.Shelf.Ren := ⟨fun | 215 => 151 | n => n, fun | 3 => 3 | 4 => 4 | n => n, fun | n => n⟩
theorem Tryz.lays215 : Go.Proofs.Lays.n215 Tryz.prog Tryz.lays215_ren := {
  mixed := by kernel_rfl
  f215 := Tryz.func151.trans (congrArg some (by kernel_rfl))
  t3 := Tryz.underlying3
  a3 := Tryz.isAgg3
  z3 := Tryz.sizeOf3
  v3 := Tryz.zeroValue3
  t4 := Tryz.underlying4
  a4 := Tryz.isAgg4
  z4 := Tryz.sizeOf4
  v4 := Tryz.zeroValue4 }
open Go.RowKit in
theorem Tryz.cmp_isNaN_int (x : Int) (w : World) :
    Calls Tryz.prog 151 #[.int .i64 x] w fun e w' => e = .returned (.bool false) ∧ w' = w := Any.cmp_isNaN_int Tryz.lays215 x w
def Tryz.lays122_ren : Go.Shelf.Ren := ⟨fun | 122 => 134 | 215 => 151 | n => n, fun | 3 => 3 | 4 => 4 | n => n, fun | n => n⟩
theorem Tryz.lays122 : Go.Proofs.Lays.n122 Tryz.prog Tryz.lays122_ren := {
  mixed := by kernel_rfl
  f122 := Tryz.func134.trans (congrArg some (by kernel_rfl))
  f215 := Tryz.func151.trans (congrArg some (by kernel_rfl))
  t3 := Tryz.underlying3
  a3 := Tryz.isAgg3
  z3 := Tryz.sizeOf3
  v3 := Tryz.zeroValue3
  t4 := Tryz.underlying4
  a4 := Tryz.isAgg4
  z4 := Tryz.sizeOf4
  v4 := Tryz.zeroValue4 }
open Go.RowKit in
theorem Tryz.cmp_Compare_int (x y : Int) (w : World) :
    Calls Tryz.prog 134 #[.int .i64 x, .int .i64 y] w fun e w' => e = .returned (.int .i64 (Lib.compareInt x y)) ∧ w' = w := Any.cmp_Compare_int Tryz.lays122 x y w
def Tryz.lays129_ren : Go.Shelf.Ren := ⟨fun | 129 => 164 | n => n, fun | 53 => 108 | 3 => 3 | 4 => 4 | 46 => 196 | 5 => 5 | 9 => 9 | n => n, fun | n => n⟩
theorem Tryz.lays129 : Go.Proofs.Lays.n129 Tryz.prog Tryz.lays129_ren := {
  mixed := by kernel_rfl
  f129 := Tryz.func164.trans (congrArg some (by kernel_rfl))
  t3 := Tryz.underlying3
  a3 := Tryz.isAgg3
  z3 := Tryz.sizeOf3
  v3 := Tryz.zeroValue3
  t4 := Tryz.underlying4
  a4 := Tryz.isAgg4
  z4 := Tryz.sizeOf4
  v4 := Tryz.zeroValue4
  t5 := Tryz.underlying5
  a5 := Tryz.isAgg5
  z5 := Tryz.sizeOf5
  v5 := Tryz.zeroValue5
  t9 := Tryz.underlying9
  a9 := Tryz.isAgg9
  z9 := Tryz.sizeOf9
  v9 := Tryz.zeroValue9
  t46 := Tryz.underlying196
  a46 := Tryz.isAgg196
  z46 := Tryz.sizeOf196
  v46 := Tryz.zeroValue196
  t53 := Tryz.underlying108
  a53 := Tryz.isAgg108
  z53 := Tryz.sizeOf108
  v53 := Tryz.zeroValue108 }
theorem Tryz.bits_Len64 (x : Int) (w : World) (h0 : 0 ≤ x) (h1 : x ≤ 18446744073709551615) :
    Calls Tryz.prog 164 #[.int .u64 x] w fun e w' => e = .returned (.int .i64 (Lib.bitLen x.toNat)) ∧ w' = w := Any.bits_Len64 Tryz.lays129 x w h0 h1
def Tryz.laysNm237_ren : Go.Shelf.Ren := ⟨fun | 37 => 151 | n => n, fun | 3 => 3 | 4 => 4 | n => n, fun | n => n⟩
theorem Tryz.laysNm237 : Go.Proofs.Lays2.n37 Tryz.prog Tryz.laysNm237_ren := {
  mixed := by kernel_rfl
  f37 := Tryz.func151.trans (congrArg some (by kernel_rfl))
  t3 := Tryz.underlying3
  a3 := Tryz.isAgg3
  z3 := Tryz.sizeOf3
  v3 := Tryz.zeroValue3
  t4 := Tryz.underlying4
  a4 := Tryz.isAgg4
  z4 := Tryz.sizeOf4
  v4 := Tryz.zeroValue4 }
open Go.RowKit Go.Lib in
theorem Tryz.cmp_isNaN_int2 (x : Int) (w : World) :
    Calls Tryz.prog 151 #[.int .i64 x] w fun e w' => e = .returned (.bool false) ∧ w' = w := Any.cmp_isNaN_int2 Tryz.laysNm237 x w
end Go.Proofs

/- Memory: a block of limbs known whole, the limbs of an argument, the limbs of an answer; math\bits' Add64 and Sub64 at this program. -/
namespace Go.Proofs.YtppkhhbhnhijpaaGreatDoor
open Go.RowKit
open Lm

/-- A limb as a value. -/
def lv (z : Nat) : Value := .int .u64 (z : Int)

/-- A block of limbs, known whole. -/
def Blk (w : World) (b : Nat) (xs : List Nat) : Prop := w.heap[b]? = some (.cells (xs.map lv).toArray 108 (0, 0))

theorem Blk.lt {w : World} {b : Nat} {xs : List Nat} (h : Blk w b xs) : b < w.heap.size := lt_of_block h

theorem Blk.cell {w : World} {b : Nat} {xs : List Nat} (h : Blk w b xs) (k : Nat) (hk : k < xs.length) : w.cell? ⟨b, k, none⟩ = some (.int .u64 ((xs.getD k 0 : Nat) : Int)) := by
  simp [World.cell?, show w.heap[b]? = _ from h, hk, lv, List.getD]

theorem Blk.free {w : World} {b : Nat} {xs : List Nat} (h : Blk w b xs) (k : Nat) : w.frozen? ⟨b, k, none⟩ = false := by
  simp [World.frozen?, show w.heap[b]? = _ from h]

theorem Blk.set {w : World} {b : Nat} {xs : List Nat} (h : Blk w b xs) (k z : Nat) : Blk (w.setCell ⟨b, k, none⟩ (.int .u64 (z : Int))) b (xs.set k z) := by
  have hlt := h.lt
  have h' : w.heap[b] = .cells (xs.map lv).toArray 108 (0, 0) := by simpa [Array.getElem?_eq_getElem hlt] using (show w.heap[b]? = _ from h)
  show (w.heap.modify b _)[b]? = _
  rw [Array.getElem?_eq_getElem (by simpa using hlt), Array.getElem_modify_self, h']
  simp [List.map_set, lv]

theorem Blk.below {w w' : World} {b B : Nat} {xs : List Nat} (h : Blk w b xs) (hb : Below B w w') (hB : b < B) : Blk w' b xs := by
  unfold Blk; rw [hb.block b hB]; exact h

theorem Blk.other {w : World} {b : Nat} {xs : List Nat} (h : Blk w b xs) (a : Addr) (u : Value) (hne : b ≠ a.block) : Blk (w.setCell a u) b xs := by
  unfold Blk; rw [Below.heap_setCell _ _ _ _ hne]; exact h

theorem Lies.below {w w' : World} {ao : Option Addr} {zs : List Nat} (h : Lies w ao zs) (hb : Below w.heap.size w w') : Lies w' ao zs := by
  rcases h with rfl | ⟨b, off, rfl, hc⟩
  · exact .inl rfl
  · by_cases h0 : zs = []
    · exact .inl h0
    · refine .inr ⟨b, off, rfl, fun k hk => ?_⟩
      rw [hb.cell (p := ⟨b, off + k, none⟩) ?_]; exact hc k hk
      have hk := hc k hk
      show b < w.heap.size
      rcases Nat.lt_or_ge b w.heap.size with h' | h'
      · exact h'
      · simp [World.cell?, Array.getElem?_eq_none h'] at hk

theorem Lies.block {w : World} {b off : Nat} {zs : List Nat} (h : Lies w (some ⟨b, off, none⟩) zs) (hz : 0 < zs.length) : b < w.heap.size := by
  rcases h with rfl | ⟨b', off', he, hc⟩
  · simp at hz
  · cases he
    have hk := hc 0 hz
    rcases Nat.lt_or_ge b w.heap.size with h' | h'
    · exact h'
    · simp [World.cell?, Array.getElem?_eq_none h'] at hk

/-- An argument: limbs that can be read. -/
structure Arg (w : World) (v : Value) (zs : List Nat) : Prop where
  form : ∃ ao cap, v = .slice ao zs.length cap ∧ zs.length ≤ cap ∧ cap ≤ 9223372036854775807 ∧ Lies w ao zs
  limbs : Limbs zs
  few : zs.length ≤ 1125899906842624
  nz : ∀ n c, v = .slice none n c → c = 0

theorem Arg.below {w w' : World} {v : Value} {zs : List Nat} (h : Arg w v zs) (hb : Below w.heap.size w w') : Arg w' v zs := by
  obtain ⟨ao, cap, h1, h2, h3, h4⟩ := h.form
  exact ⟨⟨ao, cap, h1, h2, h3, h4.below hb⟩, h.limbs, h.few, h.nz⟩

theorem Arg.trim {w : World} {ao : Option Addr} {cap : Nat} {zs : List Nat} (h : Arg w (.slice ao zs.length cap) zs) : Arg w (.slice ao (tr zs).length cap) (tr zs) := by
  have hle := tr_length_le zs
  obtain ⟨ao', cap', h1, h2, h3, h4⟩ := h.form
  cases h1
  exact ⟨⟨ao, cap, rfl, by omega, h3, h4.tr⟩, limbs_tr h.limbs, by have := h.few; omega, fun n c e => by cases e; exact h.nz _ _ rfl⟩

/-- An answer: limbs in new memory, from block 'base' on: the value owns them. -/
structure Ans (w : World) (base : Nat) (v : Value) (zs : List Nat) : Prop where
  own : w.ownsRow base 108 1 v zs.length (zs.map lv)
  limbs : Limbs zs

theorem Ans.nil (w : World) (base : Nat) : Ans w base (.slice none 0 0) [] := ⟨World.ownsRow_nil _ _ _ _, by intro z hz; cases hz⟩

theorem Ans.of_blk {w : World} {base g : Nat} {zs xs : List Nat} (hg : base ≤ g) (hb : Blk w g xs) (hz : zs = xs.take zs.length) (hl : zs.length ≤ xs.length) (hm : xs.length ≤ 9223372036854775807) (hlim : Limbs zs) :
    Ans w base (.slice (some ⟨g, 0, none⟩) zs.length xs.length) zs := by
  refine ⟨⟨by simp, .inr ⟨g, xs.length, (xs.map lv).toArray, rfl, hg, hb, hl, by unfold maxLen; omega, by simp, ?_⟩⟩, hlim⟩
  rw [Nat.mul_one]
  show (xs.map lv).take zs.length = zs.map lv
  rw [← List.map_take, ← hz]

/-- What an answer looks like. -/
theorem Ans.form {w : World} {base : Nat} {v : Value} {zs : List Nat} (h : Ans w base v zs) : (v = .slice none 0 0 ∧ zs = []) ∨
    ∃ g cap, v = .slice (some ⟨g, 0, none⟩) zs.length cap ∧ base ≤ g ∧ g < w.heap.size ∧ zs.length ≤ cap ∧ cap ≤ 9223372036854775807 ∧ (∀ k, w.frozen? ⟨g, k, none⟩ = false) ∧ ∀ k, k < zs.length → w.cell? ⟨g, k, none⟩ = some (.int .u64 ((zs.getD k 0 : Nat) : Int)) := by
  have ho := h.own
  obtain ⟨_, h2⟩ := h.own
  rcases h2 with ⟨h1, h2⟩ | ⟨g, cap, cur, rfl, hg, hh, hn, hcm, hs, ht⟩
  · exact .inl ⟨h1, List.length_eq_zero_iff.1 h2⟩
  · refine .inr ⟨g, cap, rfl, hg, lt_of_block hh, hn, by unfold maxLen at hcm; omega, fun k => ho.frozenAt k, fun k hk => ?_⟩
    rw [ho.cellAt k (by omega)]
    simp [hk, lv, List.getD]

theorem Ans.arg {w : World} {base : Nat} {v : Value} {zs : List Nat} (h : Ans w base v zs) (hf : zs.length ≤ 1125899906842624) : Arg w v zs := by
  rcases h.form with ⟨rfl, rfl⟩ | ⟨g, cap, rfl, _, _, hl, hm, _, hc⟩
  · exact ⟨⟨none, 0, rfl, by simp, by simp, .inl rfl⟩, h.limbs, hf, fun n c e => by cases e; rfl⟩
  · exact ⟨⟨_, _, rfl, hl, hm, .inr ⟨g, 0, rfl, fun k hk => by rw [Nat.zero_add]; exact hc k hk⟩⟩, h.limbs, hf, fun n c e => by cases e⟩

theorem Ans.below {w w' : World} {base : Nat} {v : Value} {zs : List Nat} (h : Ans w base v zs) (hb : Below w.heap.size w w') : Ans w' base v zs := by
  refine ⟨?_, h.limbs⟩
  obtain ⟨h1, h2⟩ := h.own
  refine ⟨h1, ?_⟩
  rcases h2 with h2 | ⟨g, cap, cur, hv, hg, hh, r⟩
  · exact .inl h2
  · exact .inr ⟨g, cap, cur, hv, hg, by rw [hb.block g (lt_of_block hh)]; exact hh, r⟩

theorem Ans.base {w : World} {base base' : Nat} {v : Value} {zs : List Nat} (h : Ans w base v zs) (hb : base' ≤ base) : Ans w base' v zs := by
  refine ⟨?_, h.limbs⟩
  obtain ⟨h1, h2⟩ := h.own
  refine ⟨h1, ?_⟩
  rcases h2 with h2 | ⟨g, cap, cur, hv, hg, r⟩
  · exact .inl h2
  · exact .inr ⟨g, cap, cur, hv, Nat.le_trans hb hg, r⟩

/-- Without the noughts at the top. -/
theorem Ans.trim {w : World} {base : Nat} {ao : Option Addr} {cap : Nat} {zs : List Nat} (h : Ans w base (.slice ao zs.length cap) zs) : Ans w base (.slice ao (tr zs).length cap) (tr zs) := by
  refine ⟨?_, limbs_tr h.limbs⟩
  have hle := tr_length_le zs
  obtain ⟨_, h2⟩ := h.own
  refine ⟨by simp, ?_⟩
  rcases h2 with ⟨h1, h2⟩ | ⟨g, cap', cur, hv, hg, hh, hn, hcm, hs, ht⟩
  · have e : zs = [] := List.length_eq_zero_iff.1 h2
    subst e
    exact .inl ⟨h1, rfl⟩
  · cases hv
    refine .inr ⟨g, cap, cur, rfl, hg, hh, by omega, hcm, hs, ?_⟩
    have e : cur.toList.take ((tr zs).length * 1) = (cur.toList.take (zs.length * 1)).take (tr zs).length := by
      rw [List.take_take, Nat.mul_one, Nat.mul_one, Nat.min_eq_left hle]
    rw [e, ht, ← List.map_take, ← tr_take]

/-- What 'make' lays. -/
theorem Blk.made {w : World} {base n g : Nat} (h : w.ownsRow base 108 1 (.slice (some ⟨g, 0, none⟩) n n) n (madeCells (Value.int .u64 0).cells (n * 1)).toList) : Blk w g (List.replicate n 0) := by
  obtain ⟨_, h2⟩ := h
  rcases h2 with ⟨h2, _⟩ | ⟨g', cap, cur, hv, _, hh, _, _, hs, ht⟩
  · cases h2
  · cases hv
    unfold Blk
    rw [hh]
    have e : cur.toList = (List.replicate n 0).map lv := by
      have : cur.toList.take (n * 1) = cur.toList := List.take_of_length_le (by simp; omega)
      rw [← this, ht]
      show (madeCells #[Value.int .u64 0] (n * 1)).toList = _
      rw [toList_madeCells_one, List.map_replicate, Nat.mul_one]; rfl
    rw [← e]

theorem Tryz.infoU : (Tryz.prog.info? 108).map (fun i => (i.zero, i.size, i.bytes)) = some (some (.int .u64 0), 1, 8) := by kernel_rfl

theorem add64 (x y c : Nat) (hc : c ≤ 1) (w : World) :
    (callFunc 168 #[.int .u64 x, .int .u64 y, .int .u64 c]).run Tryz.prog w =
      .ok (.value (.tuple #[.int .u64 (((x + y + c) % 18446744073709551616 : Nat) : Int), .int .u64 (((x + y + c) / 18446744073709551616 : Nat) : Int)])) w := by
  rw [run_callFunc_extern Tryz.func168 (by kernel_rfl) (by kernel_rfl) (by kernel_rfl) (e := add64Entry) (by kernel_rfl), run_add64 x y c (by omega) (by omega) (by omega) (by omega)]
  simp only [Result.andThen]
  congr 5 <;> omega

theorem add64_0 (x y : Nat) (w : World) :
    (callFunc 168 #[.int .u64 x, .int .u64 y, .int .u64 0]).run Tryz.prog w =
      .ok (.value (.tuple #[.int .u64 (((x + y) % 18446744073709551616 : Nat) : Int), .int .u64 (((x + y) / 18446744073709551616 : Nat) : Int)])) w :=
  add64 x y 0 (by omega) w

end Go.Proofs.YtppkhhbhnhijpaaGreatDoor

/- Boxes: a cell put anew. -/
namespace Go.Proofs.YtppkhhbhnhijpaaGreatDoor
open Go.RowKit
open Lm

theorem below_drewN {B : Nat} {a w : World} (h : Below B a w) (n : Nat) : Below B a (w.drewN n) := ⟨h.os, h.tape, h.output, h.size, h.block⟩

theorem box_modify {w : World} {h k : Nat} {cs : Array Value} {t : TypeId} (e : w.heap[h]? = some (.cells cs t)) (u : Value) : (w.setCell ⟨h, k, none⟩ u).heap[h]? = some (.cells (cs.setIfInBounds k u) t) := by
  have hlt := lt_of_block e
  have h' : w.heap[h] = .cells cs t := by simpa [Array.getElem?_eq_getElem hlt] using e
  show (w.heap.modify h _)[h]? = _
  rw [Array.getElem?_eq_getElem (by simpa using hlt), Array.getElem_modify_self, h']
  rfl

theorem tr_len_lt (X : List Nat) (n : Nat) (h : val X < 18446744073709551616 ^ n) : (tr X).length ≤ n := by
  refine Nat.le_of_not_lt fun hlt => ?_
  obtain ⟨m, hm⟩ : ∃ m, (tr X).length = m + 1 := ⟨(tr X).length - 1, by omega⟩
  have h1 := tr_val_ge X m hm
  rw [val_tr] at h1
  have h2 : (18446744073709551616 : Nat) ^ n ≤ 18446744073709551616 ^ m := Nat.pow_le_pow_right (by omega) (by omega)
  omega

/-- A normal number in few bits has few limbs. -/
theorem few_ofW {rs : List Nat} {x n : Nat} (ht : tr rs = rs) (hv : val rs = x) (hb : blen x ≤ n * 64) : rs.length ≤ n := by
  rw [← ht]
  refine tr_len_lt rs n ?_
  rw [hv, W_pow]
  exact (blen_le_iff x _).1 hb

end Go.Proofs.YtppkhhbhnhijpaaGreatDoor

/- Lists that are laid by a literal. -/
namespace Go.Proofs.YtppkhhbhnhijpaaGreatDoor
open Go.RowKit
open Lm

theorem Blk.lits (w : World) (zs : List Nat) (cs : Array Value) (t : TypeId) (ht : t = 108) (h : cs = (zs.map lv).toArray) : Blk (w.alloc (.cells cs t)) w.heap.size zs := by
  subst h; subst ht
  unfold Blk
  rw [heap_alloc_new]

theorem Arg.lits (w : World) (zs : List Nat) (cs : Array Value) (n : Nat) (hn : n = zs.length) (h : cs = (zs.map lv).toArray) (hl : Limbs zs) (hf : zs.length ≤ 1000) : Arg (w.alloc (.cells cs 108)) (.slice (some ⟨w.heap.size, 0, none⟩) n n) zs := by
  subst hn
  have hb := Blk.lits w zs cs _ rfl h
  exact ⟨⟨_, _, rfl, Nat.le_refl _, by omega, .inr ⟨_, 0, rfl, fun k hk => by rw [Nat.zero_add]; exact hb.cell k hk⟩⟩, hl, by omega, fun n c e => by cases e⟩

end Go.Proofs.YtppkhhbhnhijpaaGreatDoor

/- Package nat: Length, answer, Add. -/
namespace Go.Proofs.YtppkhhbhnhijpaaGreatDoor
open Go.RowKit
open Lm


theorem length_any (v : Value) (zs : List Nat) (w : World) (h : Arg w v zs) :
    Calls Tryz.prog 147 #[v] w fun e w' => e = .returned (.int .i64 ((bl zs : Nat) : Int)) ∧ w' = w := by
  obtain ⟨ao, cap, rfl, hcap, hmax, hl⟩ := h.form
  have hle := tr_length_le zs
  have hlt := hl.tr
  have hlm := limbs_tr h.limbs
  have hfew := h.few
  by_cases h0 : tr zs = []
  · have e : bl zs = 0 := by simp [bl, h0]
    rw [e]
    have hn : (((tr zs).length : Int) == 0) = true := by simp [h0]
    clear e
    go_enter Tryz.func147, Tryz.ntmps147
    go_wp2_with fail
    refine (trim_any ao cap zs w hcap hmax hl).mono ?_
    rintro e w' ⟨rfl, rfl⟩
    go_wp2
    go_ret
    exact ⟨rfl, rfl⟩
  · rcases hlt with h1 | ⟨b, off, rfl, hc⟩
    · exact absurd h1 h0
    · have hpos : 0 < (tr zs).length := List.length_pos_iff.2 h0
      obtain ⟨n, hn⟩ : ∃ n, (tr zs).length = n + 1 := ⟨(tr zs).length - 1, by omega⟩
      have hcn := hc n (by omega)
      have hzn := limb_lt hlm n
      have e : bl zs = n * 64 + Lib.bitLen ((tr zs).getD n 0) := by simp [bl, h0, hn]
      rw [e]
      have htr := trim_any (some ⟨b, off, none⟩) cap zs w hcap hmax hl
      rw [hn] at htr
      generalize (tr zs).getD n 0 = z at *
      have hb := Lib.bitLen_le z 64 (by omega) (by omega)
      generalize hy : Lib.bitLen z = y at *
      have HY : Hid (Lib.bitLen z = y) := hy
      clear hy
      have HC := htr
      clear htr e h0 hc hl
      go_enter Tryz.func147, Tryz.ntmps147
      go_wp2_with fail
      refine HC.mono ?_
      rintro e w' ⟨rfl, rfl⟩
      go_wp2_with fail
      refine (Tryz.bits_Len64 _ _ (by omega) (by omega)).mono ?_
      rintro e w' ⟨rfl, rfl⟩
      rw [Int.toNat_natCast, HY.out]
      go_wp2
      go_ret
      exact ⟨by go_num, rfl⟩

theorem length_val (v : Value) (zs : List Nat) (w : World) (h : Arg w v zs) :
    Calls Tryz.prog 147 #[v] w fun e w' => e = .returned (.int .i64 ((blen (val zs) : Nat) : Int)) ∧ w' = w := by
  rw [← bl_eq h.limbs]; exact length_any v zs w h

/-- What a call answers whose number is s: the number, in new memory, or that it is too great. -/
def Res (w : World) (base : Nat) (e : Ending) (s : Nat) : Prop :=
  ∃ v c rs, e = .returned (.tuple #[v, .int .i64 c]) ∧ Ans w base v rs ∧ ((c = 0 ∧ val rs = s ∧ tr rs = rs ∧ blen s ≤ 67108864) ∨ (c = 3 ∧ rs = [] ∧ 67108864 < blen s))

theorem answer_own (v : Value) (base : Nat) (xs : List Nat) (w : World) (h : Ans w base v xs) (hf : xs.length ≤ 1125899906842624) :
    Calls Tryz.prog 177 #[v] w fun e w' => w' = w ∧ Res w base e (val xs) := by
  have ha := h.arg hf
  obtain ⟨ao, cap, rfl, hcap, hmax, hlies⟩ := ha.form
  have hle := tr_length_le xs
  have ht := ha.trim
  have H1 := trim_any _ cap xs w hcap hmax hlies
  have H2 := length_val _ _ _ ht
  rw [val_tr] at H2
  have HA : Hid (Ans w base (.slice ao (tr xs).length cap) (tr xs)) := h.trim
  have HT : Hid (tr (tr xs) = tr xs ∧ val (tr xs) = val xs) := ⟨tr_tr xs, val_tr xs⟩
  unfold Res
  generalize tr xs = T at *
  generalize val xs = V at *
  generalize blen V = y at *
  clear ht hlies h ha
  by_cases hy : y ≤ 67108864
  · go_enter Tryz.func177, Tryz.ntmps177
    go_wp2_with fail
    refine H1.mono ?_
    rintro e w' ⟨rfl, rfl⟩
    go_wp2_with fail
    refine H2.mono ?_
    rintro e w' ⟨rfl, rfl⟩
    go_wp2
    go_ret2
    exact ⟨rfl, _, _, T, rfl, HA.out, .inl ⟨rfl, HT.out.2, HT.out.1, hy⟩⟩
  · go_enter Tryz.func177, Tryz.ntmps177
    go_wp2_with fail
    refine H1.mono ?_
    rintro e w' ⟨rfl, rfl⟩
    go_wp2_with fail
    refine H2.mono ?_
    rintro e w' ⟨rfl, rfl⟩
    go_wp2
    go_ret2
    exact ⟨rfl, _, _, [], rfl, Ans.nil _ _, .inr ⟨rfl, rfl, by omega⟩⟩

theorem answer_blk (g base : Nat) (xs : List Nat) (w : World) (hb : Blk w g xs) (hl : Limbs xs) (hg : base ≤ g) (hf : xs.length ≤ 1125899906842624) :
    Calls Tryz.prog 177 #[.slice (some ⟨g, 0, none⟩) xs.length xs.length] w fun e w' => w' = w ∧ Res w base e (val xs) :=
  answer_own _ base xs w (Ans.of_blk hg hb List.take_length.symm (Nat.le_refl _) (by omega) hl) hf

end Go.Proofs.YtppkhhbhnhijpaaGreatDoor

/- Package nat: Compare. -/
namespace Go.Proofs.YtppkhhbhnhijpaaGreatDoor
open Go.RowKit
open Lm
attribute [local go_sem ↓] Go.wp_at_zero Go.wp_at_succ

theorem cmpU (x y : Nat) (w : World) :
    Calls Tryz.prog 152 #[.int .u64 x, .int .u64 y] w fun e w' => e = .returned (.int .i64 (cmpN x y)) ∧ w' = w := by
  rcases Nat.lt_trichotomy x y with h | h | h
  · rw [cmpN_lt h]
    have h1 : (x : Int) < (y : Int) := by omega
    go_enter Tryz.func152, Tryz.ntmps152
    go_wp2
    go_ret
    exact ⟨rfl, rfl⟩
  · subst h
    rw [cmpN_self]
    go_enter Tryz.func152, Tryz.ntmps152
    go_wp2
    go_ret
    exact ⟨rfl, rfl⟩
  · rw [cmpN_gt h]
    have h1 : ¬ (x : Int) < (y : Int) := by omega
    have h2 : (y : Int) < (x : Int) := by omega
    go_enter Tryz.func152, Tryz.ntmps152
    go_wp2
    go_ret
    exact ⟨rfl, rfl⟩

theorem cmpI (x y : Nat) (w : World) :
    Calls Tryz.prog 134 #[.int .i64 x, .int .i64 y] w fun e w' => e = .returned (.int .i64 (cmpN x y)) ∧ w' = w := by
  have e : cmpN x y = Lib.compareInt x y := by
    unfold cmpN Lib.compareInt
    simp
  rw [e]
  exact Tryz.cmp_Compare_int x y w

/-- The world behind a call that only reads: as it was, but for draws. -/
structure Same (w w' : World) : Prop where
  heap : w'.heap = w.heap
  os : w'.os = w.os
  tape : w'.tape = w.tape
  output : w'.output = w.output

theorem Same.below {w w' : World} (h : Same w w') (B : Nat) : Below B w w' := ⟨h.os, h.tape, h.output, by rw [h.heap]; exact Nat.le_refl _, fun _ _ => by rw [h.heap]⟩
theorem Same.refl (w : World) : Same w w := ⟨rfl, rfl, rfl, rfl⟩
theorem Same.trans {a b c : World} (h : Same a b) (k : Same b c) : Same a c := ⟨k.heap.trans h.heap, k.os.trans h.os, k.tape.trans h.tape, k.output.trans h.output⟩
theorem Same.drew {a b : World} (h : Same a b) : Same a b.drew := ⟨h.heap, h.os, h.tape, h.output⟩
theorem Same.drewN {a b : World} (h : Same a b) (n : Nat) : Same a (b.drewN n) := ⟨h.heap, h.os, h.tape, h.output⟩
theorem Same.size {w w' : World} (h : Same w w') : w'.heap.size = w.heap.size := by rw [h.heap]

set_option maxHeartbeats 800000 in
theorem compare_any (v1 v2 : Value) (zs ys : List Nat) (w : World) (h1 : Arg w v1 zs) (h2 : Arg w v2 ys) :
    Calls Tryz.prog 155 #[v1, v2] w fun e w' => e = .returned (.int .i64 (cmpN (val zs) (val ys))) ∧ Same w w' := by
  obtain ⟨a1, c1, rfl, hc1, hm1, hl1⟩ := h1.form
  obtain ⟨a2, c2, rfl, hc2, hm2, hl2⟩ := h2.form
  have H1 := trim_any a1 c1 zs w hc1 hm1 hl1
  have H2 := trim_any a2 c2 ys w hc2 hm2 hl2
  have l1 := tr_length_le zs
  have l2 := tr_length_le ys
  have L1 := hl1.tr
  have L2 := hl2.tr
  have M1 := limbs_tr h1.limbs
  have M2 := limbs_tr h2.limbs
  have f1 := h1.few
  have f2 := h2.few
  rw [← val_tr zs, ← val_tr ys]
  by_cases hlt : (tr zs).length = (tr ys).length
  · have HL : Hid ((tr ys).length = (tr zs).length) := hlt.symm
    rw [← hlt] at H2
    clear hlt
    generalize tr zs = Z at *
    generalize tr ys = Y at *
    go_enter Tryz.func155, Tryz.ntmps155
    go_wp2_with fail
    refine H1.mono ?_
    rintro e w' ⟨rfl, rfl⟩
    go_wp2_with fail
    refine H2.mono ?_
    rintro e w' ⟨rfl, rfl⟩
    clear H1 H2
    go_wp2
    go_loopw [26] (fun i wr => ∃ k : Nat, k ≤ Z.length ∧ i = .int .i64 k ∧ Same w' wr ∧ cmpN (val (Z.take (Z.length - k))) (val (Y.take (Z.length - k))) = cmpN (val Z) (val Y)) (fun i _ => Z.length - (intOf i).toNat)
    case atStart => exact ⟨0, Nat.zero_le _, rfl, Same.refl _, by rw [Nat.sub_zero, List.take_length, ← HL.out, List.take_length]⟩
    case round =>
      obtain ⟨k, hk, rfl, hsame, hv⟩ := hrel
      have HV : Hid (cmpN (val (Z.take (Z.length - k))) (val (Y.take (Z.length - k))) = cmpN (val Z) (val Y)) := hv
      clear hv
      by_cases hkl : k < Z.length
      · rcases L1.below (hsame.below _) with h0 | ⟨b, off, rfl, hcell⟩
        · simp [h0] at hkl
        · rcases L2.below (hsame.below _) with h0 | ⟨b', off', rfl, hcell'⟩
          · have := HL.out; simp [h0] at this; omega
          · have hck := hcell (Z.length - 1 - k) (by omega)
            have hck' := hcell' (Z.length - 1 - k) (by have := HL.out; omega)
            have ek : Z.length - k = (Z.length - 1 - k) + 1 := by omega
            have hje : (Z.length : Int) - 1 - (k : Int) = ((Z.length - 1 - k : Nat) : Int) := by omega
            have hjl : Z.length - 1 - k < Z.length := by omega
            have ek2 : Z.length - (k + 1) = Z.length - 1 - k := by omega
            generalize Z.length - 1 - k = j at *
            have hi1 : (0 : Int) ≤ (j : Int) := by omega
            have hi2 : (j : Int) < (Z.length : Int) := by omega
            have hwj : IntKind.i64.wrap (j : Int) = (j : Int) := by rw [IntKind.wrap_i64]; omega
            have hwr : IntKind.i64.wrap ((Z.length : Int) - 1 - (k : Int)) = (j : Int) := by rw [IntKind.wrap_i64]; omega
            by_cases hxy : Z.getD j 0 = Y.getD j 0
            · have HN : Hid (cmpN (val (Z.take (Z.length - (k + 1)))) (val (Y.take (Z.length - (k + 1)))) = cmpN (val Z) (val Y)) := by
                rw [← HV.out, ek, cmp_same _ hxy, ek2]; rfl
              rw [hxy] at hck
              generalize Y.getD j 0 = y at *
              clear hcell hcell' HV ek ek2 L1 L2 M1 M2 hl1 hl2 h1 h2
              go_wp2
              go_quiet (fail)
              go_wp2
              go_roundw
              case rel => exact ⟨k + 1, by omega, by go_num, hsame.drewN _, HN.out⟩
              case measure => simp [intOf]; omega
            · have HN : Hid (cmpN (Z.getD j 0) (Y.getD j 0) = cmpN (val Z) (val Y)) := by
                rw [← HV.out, ek, cmp_top M1 M2 _ hxy]; rfl
              have hne : (((Z.getD j 0 : Nat) : Int) != ((Y.getD j 0 : Nat) : Int)) = true := by rw [bne_iff_ne]; omega
              clear hxy
              generalize Z.getD j 0 = x at *
              generalize Y.getD j 0 = y at *
              clear hcell hcell' HV ek ek2 L1 L2 M1 M2 hl1 hl2 h1 h2
              go_wp2
              go_quiet (fail)
              go_wp2
              go_region_held3 (fun w2 => w2.cell? ⟨b, off + j, none⟩ = some (.int .u64 x) ∧ w2.cell? ⟨b', off' + j, none⟩ = some (.int .u64 y)) (go_keep) (first | (go_at_call 152; refine (cmpU _ _ _).mono ?_; rintro e w2 ⟨rfl, rfl⟩))
              go_wp2
              go_ret
              rw [HN.out]
              exact ⟨rfl, hsame.drewN _⟩
      · have ek : k = Z.length := by omega
        subst ek
        have HN : Hid (cmpN (val Z) (val Y) = 0) := by rw [← HV.out, Nat.sub_self]; rfl
        clear HV L1 L2 M1 M2 hl1 hl2 h1 h2
        go_wp2
        go_ret
        rw [HN.out]
        exact ⟨rfl, hsame⟩
  · have HN : Hid (cmpN (tr zs).length (tr ys).length = cmpN (val (tr zs)) (val (tr ys))) := (cmp_len h1.limbs h2.limbs hlt).symm
    have hne : (((tr zs).length : Int) != ((tr ys).length : Int)) = true := by rw [bne_iff_ne]; omega
    clear hlt
    generalize tr zs = Z at *
    generalize tr ys = Y at *
    clear L1 L2 M1 M2 hl1 hl2 h1 h2
    go_enter Tryz.func155, Tryz.ntmps155
    go_wp2_with fail
    refine H1.mono ?_
    rintro e w' ⟨rfl, rfl⟩
    go_wp2_with fail
    refine H2.mono ?_
    rintro e w' ⟨rfl, rfl⟩
    clear H1 H2
    go_wp2_with fail
    refine (cmpI _ _ _).mono ?_
    rintro e w2 ⟨rfl, rfl⟩
    rw [HN.out]
    go_wp2
    go_ret
    exact ⟨rfl, Same.refl _⟩

end Go.Proofs.YtppkhhbhnhijpaaGreatDoor

/- Package nat: Sub. -/
namespace Go.Proofs.YtppkhhbhnhijpaaGreatDoor
open Go.RowKit
open Lm
attribute [local go_sem ↓] Go.wp_at_zero Go.wp_at_succ

theorem sub64 (x y b : Nat) (hb : b ≤ 1) (w : World) :
    (callFunc 169 #[.int .u64 x, .int .u64 y, .int .u64 b]).run Tryz.prog w =
      .ok (.value (.tuple #[.int .u64 (((x + 18446744073709551616 - y - b) % 18446744073709551616 : Nat) : Int), .int .u64 ((bor x y b : Nat) : Int)])) w := by
  rw [run_callFunc_extern Tryz.func169 (by kernel_rfl) (by kernel_rfl) (by kernel_rfl) (e := sub64Entry) (by kernel_rfl), run_sub64 x y b hb]
  rfl

theorem bor_le (x y b : Nat) : bor x y b ≤ 1 := by unfold bor; split <;> omega

theorem sub_end {Z Y out : List Nat} (ho : Limbs out) (hl : out.length = Z.length) (hyl : Y.length ≤ Z.length) (hle : val Y ≤ val Z) (bw : Nat) (_hbw : bw ≤ 1)
    (h : val (out.take Z.length) + val (Y.take Z.length) = val (Z.take Z.length) + bw * 18446744073709551616 ^ Z.length) : val out = val Z - val Y := by
  rw [List.take_of_length_le (by omega), List.take_of_length_le (by omega), List.take_length] at h
  have h1 := val_lt ho
  rw [hl] at h1
  rcases Nat.eq_zero_or_pos bw with h0 | h0
  · subst h0; omega
  · have e : bw = 1 := by omega
    subst e
    omega

end Go.Proofs.YtppkhhbhnhijpaaGreatDoor

/- Package nat: From, Times. -/
namespace Go.Proofs.YtppkhhbhnhijpaaGreatDoor
open Go.RowKit
open Lm

/-- A number of one limb, or nought. -/
theorem from_any (x : Nat) (w : World) (hx : x < 18446744073709551616) :
    Calls Tryz.prog 158 #[.int .u64 x] w fun e w' => (∃ v, e = .returned v ∧ Ans w' w.heap.size v (tr [x])) ∧ Below w.heap.size w w' := by
  by_cases h : x = 0
  · subst h
    have hz : (((0 : Nat) : Int) == 0) = true := rfl
    go_enter Tryz.func158, Tryz.ntmps158
    go_wp2
    go_ret
    exact ⟨⟨_, rfl, Ans.nil _ _⟩, Below.refl _ _⟩
  · have hz : ((x : Int) == 0) = false := by rw [beq_eq_false_iff_ne]; omega
    have e : tr [x] = [x] := by simp [tr, h]
    rw [e]
    clear e h
    have hb : Blk (w.alloc (.cells #[.int .u64 (x : Int)] 108)) w.heap.size [x] := by
      unfold Blk; rw [heap_alloc_new]; rfl
    have HA := hide (Ans.of_blk (base := w.heap.size) (zs := [x]) (Nat.le_refl _) hb rfl (Nat.le_refl _) (by simp) (by intro y hy; simp at hy; omega))
    clear hb
    go_enter Tryz.func158, Tryz.ntmps158
    go_wp2
    go_ret
    exact ⟨⟨_, rfl, HA.out⟩, (Below.refl _ _).alloc (Nat.le_refl _) _⟩

end Go.Proofs.YtppkhhbhnhijpaaGreatDoor
