/- The inner functions of package nat: trim, limb. -/
import Derived.Test.YtppblbhkghjphaaGreatDoorChecked
import Derived.Test.YtppblbhkghjphaaGreatDoorQA
import Derived.WalkKit
import Derived.WalkLawsBesides
import Derived.Shelf.Small.Bits
import Derived.Shelf.Small.Wraps
import Derived.Shelf.Strconv.Itoa0
import Derived.Shelf.Bits.Mul64
import Derived.Ground.Names2Prog
import Derived.Shelf.Slices.SearchI
import Derived.Test.YtppblbhkghjphaaGreatDoorProg
import Derived.Laws.Externs
import Derived.Shelf.Spec.BitsCarry
import Derived.Handy
import Derived.Deep.QuietTactic
import Derived.BigQuiet
import Derived.Deep.RegionHeld3
import Derived.Deep.DrawnRows
import Derived.Laws.AppendOwnNone
import Derived.Deep.CutBlock
import Derived.Deep.DeepCutAuto
namespace Go.Proofs.YtppblbhkghjphaaGreatDoor
open Go.RowKit
open Lm

theorem hide {p : Prop} (h : p) : Hid p := h

/-- Limbs lie from an address on. -/
def Lies (w : World) (ao : Option Addr) (zs : List Nat) : Prop :=
  zs = [] ∨ ∃ b off, ao = some ⟨b, off, none⟩ ∧ ∀ k, k < zs.length → w.cell? ⟨b, off + k, none⟩ = some (.int .u64 ((zs.getD k 0 : Nat) : Int))

theorem trim_some (b off cap : Nat) (zs : List Nat) (w : World) (hcap : zs.length ≤ cap) (hmax : cap ≤ 9223372036854775807)
    (hc : ∀ k, k < zs.length → w.cell? ⟨b, off + k, none⟩ = some (.int .u64 ((zs.getD k 0 : Nat) : Int))) :
    Calls Tryz.prog 36 #[.slice (some ⟨b, off, none⟩) zs.length cap] w fun e w' => e = .returned (.slice (some ⟨b, off, none⟩) (tr zs).length cap) ∧ w' = w := by
  go_enter Tryz.func36, Tryz.ntmps36
  go_wp2
  go_loop [3] (fun n => ∃ k : Nat, k ≤ zs.length ∧ n = .int .i64 k ∧ tr (zs.take k) = tr zs) (fun n => (intOf n).toNat)
  case atStart => exact ⟨zs.length, Nat.le_refl _, rfl, by rw [List.take_length]⟩
  case round =>
    obtain ⟨k, hk, rfl, ht⟩ := hrel
    have HT : Hid (tr (zs.take k) = tr zs) := ht
    clear ht
    by_cases h0 : k = 0
    · subst h0
      go_wp2
      go_ret
      have e := HT.out
      simp only [List.take_zero, tr] at e
      rw [← e]
      exact ⟨rfl, rfl⟩
    · obtain ⟨j, rfl⟩ : ∃ j, k = j + 1 := ⟨k - 1, by omega⟩
      have hcj := hc j (by omega)
      clear hc
      by_cases hz : zs.getD j 0 = 0
      · have HZ : Hid (tr (zs.take j) = tr zs) := by rw [← tr_step zs j (by omega) hz]; exact HT.out
        rw [hz] at hcj
        clear hz HT
        go_wp2
        go_round
        case rel => exact ⟨j, by omega, by go_num, HZ.out⟩
        case measure => simp [intOf]
      · have HZ : Hid (tr zs = zs.take (j + 1)) := by rw [← HT.out]; exact tr_stop zs j (by omega) hz
        clear HT
        generalize zs.getD j 0 = z at hcj hz
        have hne : ((z : Int) == 0) = false := by rw [beq_eq_false_iff_ne]; omega
        clear hz
        go_wp2
        go_ret
        rw [HZ.out]
        have e : (zs.take (j + 1)).length = j + 1 := by simp; omega
        rw [e]
        exact ⟨rfl, rfl⟩

/-- An empty list: whatever its address. -/
theorem trim_none (ao : Option Addr) (cap : Nat) (w : World) (_hmax : cap ≤ 9223372036854775807) :
    Calls Tryz.prog 36 #[.slice ao 0 cap] w fun e w' => e = .returned (.slice ao 0 cap) ∧ w' = w := by
  go_enter Tryz.func36, Tryz.ntmps36
  go_wp2
  refine wp_loop_rounds 1 ?_
  rw [rounds_succ]
  go_wp2
  go_ret
  exact ⟨rfl, rfl⟩

theorem trim_any (ao : Option Addr) (cap : Nat) (zs : List Nat) (w : World) (hcap : zs.length ≤ cap) (hmax : cap ≤ 9223372036854775807) (hl : Lies w ao zs) :
    Calls Tryz.prog 36 #[.slice ao zs.length cap] w fun e w' => e = .returned (.slice ao (tr zs).length cap) ∧ w' = w := by
  rcases hl with rfl | ⟨b, off, rfl, hc⟩
  · exact trim_none ao cap w hmax
  · exact trim_some b off cap zs w hcap hmax hc

theorem Lies.tr {w : World} {ao : Option Addr} {zs : List Nat} (h : Lies w ao zs) : Lies w ao (tr zs) := by
  rcases h with rfl | ⟨b, off, rfl, hc⟩
  · exact .inl rfl
  · exact .inr ⟨b, off, rfl, fun k hk => by rw [tr_getD zs k hk]; exact hc k (Nat.lt_of_lt_of_le hk (tr_length_le zs))⟩

/-- A limb, or nought beyond the top. -/
theorem limb_any (ao : Option Addr) (cap : Nat) (zs : List Nat) (i : Nat) (w : World) (hcap : zs.length ≤ cap) (_hmax : cap ≤ 9223372036854775807) (hl : Lies w ao zs) :
    Calls Tryz.prog 39 #[.slice ao zs.length cap, .int .i64 i] w fun e w' => e = .returned (.int .u64 ((zs.getD i 0 : Nat) : Int)) ∧ w' = w := by
  by_cases hi : i < zs.length
  · rcases hl with rfl | ⟨b, off, rfl, hc⟩
    · simp at hi
    · have hci := hc i hi
      clear hc
      generalize zs.getD i 0 = z at hci ⊢
      go_enter Tryz.func39, Tryz.ntmps39
      go_wp2
      go_ret
      exact ⟨rfl, rfl⟩
  · have e : zs.getD i 0 = 0 := by simp [List.getD, Nat.le_of_not_lt hi]
    rw [e]
    clear hl e
    go_enter Tryz.func39, Tryz.ntmps39
    go_wp2
    go_ret
    exact ⟨rfl, rfl⟩

end Go.Proofs.YtppblbhkghjphaaGreatDoor

/- Contracts of Go's library, as the kit's own shelf lays them at this translation. -/
namespace Go.Proofs
open Go.Shelf
def Tryz.lays134_ren : Go.Shelf.Ren := ⟨fun | 134 => 68 | 129 => 37 | n => n, fun | 53 => 32 | 3 => 3 | 4 => 4 | 46 => 71 | 5 => 5 | 9 => 9 | n => n, fun | n => n⟩
theorem Tryz.lays134 : Go.Proofs.Lays.n134 Tryz.prog Tryz.lays134_ren := {
  mixed := by kernel_rfl
  f129 := Tryz.func37.trans (congrArg some (by kernel_rfl))
  f134 := Tryz.func68.trans (congrArg some (by kernel_rfl))
  t3 := Tryz.underlying3
  a3 := Tryz.isAgg3
  z3 := Tryz.sizeOf3
  v3 := Tryz.zeroValue3
  t4 := Tryz.underlying4
  a4 := Tryz.isAgg4
  z4 := Tryz.sizeOf4
  v4 := Tryz.zeroValue4
  t5 := Tryz.underlying5
  a5 := Tryz.isAgg5
  z5 := Tryz.sizeOf5
  v5 := Tryz.zeroValue5
  t9 := Tryz.underlying9
  a9 := Tryz.isAgg9
  z9 := Tryz.sizeOf9
  v9 := Tryz.zeroValue9
  t46 := Tryz.underlying71
  a46 := Tryz.isAgg71
  z46 := Tryz.sizeOf71
  v46 := Tryz.zeroValue71
  t53 := Tryz.underlying32
  a53 := Tryz.isAgg32
  z53 := Tryz.sizeOf32
  v53 := Tryz.zeroValue32 }
theorem Tryz.bits_LeadingZeros64 (x : Int) (w : World) (h0 : 0 ≤ x) (h1 : x ≤ 18446744073709551615) :
    Calls Tryz.prog 68 #[.int .u64 x] w fun e w' => e = .returned (.int .i64 (64 - (Lib.bitLen x.toNat : Int))) ∧ w' = w := Any.bits_LeadingZeros64 Tryz.lays134 x w h0 h1
def Tryz.lays215_ren : Go.Shelf.Ren := ⟨fun | 215 => 79 | n => n, fun | 3 => 3 | 4 => 4 | n => n, fun | n => n⟩
theorem Tryz.lays215 : Go.Proofs.Lays.n215 Tryz.prog Tryz.lays215_ren := {
  mixed := by kernel_rfl
  f215 := Tryz.func79.trans (congrArg some (by kernel_rfl))
  t3 := Tryz.underlying3
  a3 := Tryz.isAgg3
  z3 := Tryz.sizeOf3
  v3 := Tryz.zeroValue3
  t4 := Tryz.underlying4
  a4 := Tryz.isAgg4
  z4 := Tryz.sizeOf4
  v4 := Tryz.zeroValue4 }
open Go.RowKit in
theorem Tryz.cmp_isNaN_int (x : Int) (w : World) :
    Calls Tryz.prog 79 #[.int .i64 x] w fun e w' => e = .returned (.bool false) ∧ w' = w := Any.cmp_isNaN_int Tryz.lays215 x w
def Tryz.lays122_ren : Go.Shelf.Ren := ⟨fun | 122 => 58 | 215 => 79 | n => n, fun | 3 => 3 | 4 => 4 | n => n, fun | n => n⟩
theorem Tryz.lays122 : Go.Proofs.Lays.n122 Tryz.prog Tryz.lays122_ren := {
  mixed := by kernel_rfl
  f122 := Tryz.func58.trans (congrArg some (by kernel_rfl))
  f215 := Tryz.func79.trans (congrArg some (by kernel_rfl))
  t3 := Tryz.underlying3
  a3 := Tryz.isAgg3
  z3 := Tryz.sizeOf3
  v3 := Tryz.zeroValue3
  t4 := Tryz.underlying4
  a4 := Tryz.isAgg4
  z4 := Tryz.sizeOf4
  v4 := Tryz.zeroValue4 }
open Go.RowKit in
theorem Tryz.cmp_Compare_int (x y : Int) (w : World) :
    Calls Tryz.prog 58 #[.int .i64 x, .int .i64 y] w fun e w' => e = .returned (.int .i64 (Lib.compareInt x y)) ∧ w' = w := Any.cmp_Compare_int Tryz.lays122 x y w
def Tryz.lays129_ren : Go.Shelf.Ren := ⟨fun | 129 => 37 | n => n, fun | 53 => 32 | 3 => 3 | 4 => 4 | 46 => 71 | 5 => 5 | 9 => 9 | n => n, fun | n => n⟩
theorem Tryz.lays129 : Go.Proofs.Lays.n129 Tryz.prog Tryz.lays129_ren := {
  mixed := by kernel_rfl
  f129 := Tryz.func37.trans (congrArg some (by kernel_rfl))
  t3 := Tryz.underlying3
  a3 := Tryz.isAgg3
  z3 := Tryz.sizeOf3
  v3 := Tryz.zeroValue3
  t4 := Tryz.underlying4
  a4 := Tryz.isAgg4
  z4 := Tryz.sizeOf4
  v4 := Tryz.zeroValue4
  t5 := Tryz.underlying5
  a5 := Tryz.isAgg5
  z5 := Tryz.sizeOf5
  v5 := Tryz.zeroValue5
  t9 := Tryz.underlying9
  a9 := Tryz.isAgg9
  z9 := Tryz.sizeOf9
  v9 := Tryz.zeroValue9
  t46 := Tryz.underlying71
  a46 := Tryz.isAgg71
  z46 := Tryz.sizeOf71
  v46 := Tryz.zeroValue71
  t53 := Tryz.underlying32
  a53 := Tryz.isAgg32
  z53 := Tryz.sizeOf32
  v53 := Tryz.zeroValue32 }
theorem Tryz.bits_Len64 (x : Int) (w : World) (h0 : 0 ≤ x) (h1 : x ≤ 18446744073709551615) :
    Calls Tryz.prog 37 #[.int .u64 x] w fun e w' => e = .returned (.int .i64 (Lib.bitLen x.toNat)) ∧ w' = w := Any.bits_Len64 Tryz.lays129 x w h0 h1
def Tryz.lays264_ren : Go.Shelf.Ren := ⟨fun | 264 => 114 | n => n, fun | 53 => 32 | 46 => 71 | n => n, fun | n => n⟩
theorem Tryz.lays264 : Go.Proofs.Lays.n264 Tryz.prog Tryz.lays264_ren := {
  mixed := by kernel_rfl
  f264 := Tryz.func114.trans (congrArg some (by kernel_rfl))
  t46 := Tryz.underlying71
  a46 := Tryz.isAgg71
  z46 := Tryz.sizeOf71
  v46 := Tryz.zeroValue71
  t53 := Tryz.underlying32
  a53 := Tryz.isAgg32
  z53 := Tryz.sizeOf32
  v53 := Tryz.zeroValue32 }
open Go.RowKit Go.Lib in
theorem Tryz.bits_Mul64 (x y : Nat) (hx : x < 18446744073709551616) (hy : y < 18446744073709551616) (w : World) :
    Calls Tryz.prog 114 #[.int .u64 x, .int .u64 y] w fun e w' => e = .returned (.tuple #[.int .u64 ((x * y / 18446744073709551616 : Nat) : Int), .int .u64 ((x * y % 18446744073709551616 : Nat) : Int)]) ∧ w' = w := Any.bits_Mul64 Tryz.lays264 x y hx hy w
def Tryz.laysNm237_ren : Go.Shelf.Ren := ⟨fun | 37 => 79 | n => n, fun | 3 => 3 | 4 => 4 | n => n, fun | n => n⟩
theorem Tryz.laysNm237 : Go.Proofs.Lays2.n37 Tryz.prog Tryz.laysNm237_ren := {
  mixed := by kernel_rfl
  f37 := Tryz.func79.trans (congrArg some (by kernel_rfl))
  t3 := Tryz.underlying3
  a3 := Tryz.isAgg3
  z3 := Tryz.sizeOf3
  v3 := Tryz.zeroValue3
  t4 := Tryz.underlying4
  a4 := Tryz.isAgg4
  z4 := Tryz.sizeOf4
  v4 := Tryz.zeroValue4 }
open Go.RowKit Go.Lib in
theorem Tryz.cmp_isNaN_int2 (x : Int) (w : World) :
    Calls Tryz.prog 79 #[.int .i64 x] w fun e w' => e = .returned (.bool false) ∧ w' = w := Any.cmp_isNaN_int2 Tryz.laysNm237 x w
end Go.Proofs

/- Memory: a block of limbs known whole, the limbs of an argument, the limbs of an answer; math\bits' Add64 and Sub64 at this program. -/
namespace Go.Proofs.YtppblbhkghjphaaGreatDoor
open Go.RowKit
open Lm

/-- A limb as a value. -/
def lv (z : Nat) : Value := .int .u64 (z : Int)

/-- A block of limbs, known whole. -/
def Blk (w : World) (b : Nat) (xs : List Nat) : Prop := w.heap[b]? = some (.cells (xs.map lv).toArray 32 (0, 0))

theorem Blk.lt {w : World} {b : Nat} {xs : List Nat} (h : Blk w b xs) : b < w.heap.size := lt_of_block h

theorem Blk.cell {w : World} {b : Nat} {xs : List Nat} (h : Blk w b xs) (k : Nat) (hk : k < xs.length) : w.cell? ⟨b, k, none⟩ = some (.int .u64 ((xs.getD k 0 : Nat) : Int)) := by
  simp [World.cell?, show w.heap[b]? = _ from h, hk, lv, List.getD]

theorem Blk.free {w : World} {b : Nat} {xs : List Nat} (h : Blk w b xs) (k : Nat) : w.frozen? ⟨b, k, none⟩ = false := by
  simp [World.frozen?, show w.heap[b]? = _ from h]

theorem Blk.set {w : World} {b : Nat} {xs : List Nat} (h : Blk w b xs) (k z : Nat) : Blk (w.setCell ⟨b, k, none⟩ (.int .u64 (z : Int))) b (xs.set k z) := by
  have hlt := h.lt
  have h' : w.heap[b] = .cells (xs.map lv).toArray 32 (0, 0) := by simpa [Array.getElem?_eq_getElem hlt] using (show w.heap[b]? = _ from h)
  show (w.heap.modify b _)[b]? = _
  rw [Array.getElem?_eq_getElem (by simpa using hlt), Array.getElem_modify_self, h']
  simp [List.map_set, lv]

theorem Blk.below {w w' : World} {b B : Nat} {xs : List Nat} (h : Blk w b xs) (hb : Below B w w') (hB : b < B) : Blk w' b xs := by
  unfold Blk; rw [hb.block b hB]; exact h

theorem Blk.other {w : World} {b : Nat} {xs : List Nat} (h : Blk w b xs) (a : Addr) (u : Value) (hne : b ≠ a.block) : Blk (w.setCell a u) b xs := by
  unfold Blk; rw [Below.heap_setCell _ _ _ _ hne]; exact h

theorem Lies.below {w w' : World} {ao : Option Addr} {zs : List Nat} (h : Lies w ao zs) (hb : Below w.heap.size w w') : Lies w' ao zs := by
  rcases h with rfl | ⟨b, off, rfl, hc⟩
  · exact .inl rfl
  · by_cases h0 : zs = []
    · exact .inl h0
    · refine .inr ⟨b, off, rfl, fun k hk => ?_⟩
      rw [hb.cell (p := ⟨b, off + k, none⟩) ?_]; exact hc k hk
      have hk := hc k hk
      show b < w.heap.size
      rcases Nat.lt_or_ge b w.heap.size with h' | h'
      · exact h'
      · simp [World.cell?, Array.getElem?_eq_none h'] at hk

theorem Lies.block {w : World} {b off : Nat} {zs : List Nat} (h : Lies w (some ⟨b, off, none⟩) zs) (hz : 0 < zs.length) : b < w.heap.size := by
  rcases h with rfl | ⟨b', off', he, hc⟩
  · simp at hz
  · cases he
    have hk := hc 0 hz
    rcases Nat.lt_or_ge b w.heap.size with h' | h'
    · exact h'
    · simp [World.cell?, Array.getElem?_eq_none h'] at hk

/-- An argument: limbs that can be read. -/
structure Arg (w : World) (v : Value) (zs : List Nat) : Prop where
  form : ∃ ao cap, v = .slice ao zs.length cap ∧ zs.length ≤ cap ∧ cap ≤ 9223372036854775807 ∧ Lies w ao zs
  limbs : Limbs zs
  few : zs.length ≤ 1125899906842624
  nz : ∀ n c, v = .slice none n c → c = 0

theorem Arg.below {w w' : World} {v : Value} {zs : List Nat} (h : Arg w v zs) (hb : Below w.heap.size w w') : Arg w' v zs := by
  obtain ⟨ao, cap, h1, h2, h3, h4⟩ := h.form
  exact ⟨⟨ao, cap, h1, h2, h3, h4.below hb⟩, h.limbs, h.few, h.nz⟩

theorem Arg.trim {w : World} {ao : Option Addr} {cap : Nat} {zs : List Nat} (h : Arg w (.slice ao zs.length cap) zs) : Arg w (.slice ao (tr zs).length cap) (tr zs) := by
  have hle := tr_length_le zs
  obtain ⟨ao', cap', h1, h2, h3, h4⟩ := h.form
  cases h1
  exact ⟨⟨ao, cap, rfl, by omega, h3, h4.tr⟩, limbs_tr h.limbs, by have := h.few; omega, fun n c e => by cases e; exact h.nz _ _ rfl⟩

/-- An answer: limbs in new memory, from block 'base' on: the value owns them. -/
structure Ans (w : World) (base : Nat) (v : Value) (zs : List Nat) : Prop where
  own : w.ownsRow base 32 1 v zs.length (zs.map lv)
  limbs : Limbs zs

theorem Ans.nil (w : World) (base : Nat) : Ans w base (.slice none 0 0) [] := ⟨World.ownsRow_nil _ _ _ _, by intro z hz; cases hz⟩

theorem Ans.of_blk {w : World} {base g : Nat} {zs xs : List Nat} (hg : base ≤ g) (hb : Blk w g xs) (hz : zs = xs.take zs.length) (hl : zs.length ≤ xs.length) (hm : xs.length ≤ 9223372036854775807) (hlim : Limbs zs) :
    Ans w base (.slice (some ⟨g, 0, none⟩) zs.length xs.length) zs := by
  refine ⟨⟨by simp, .inr ⟨g, xs.length, (xs.map lv).toArray, rfl, hg, hb, hl, by unfold maxLen; omega, by simp, ?_⟩⟩, hlim⟩
  rw [Nat.mul_one]
  show (xs.map lv).take zs.length = zs.map lv
  rw [← List.map_take, ← hz]

/-- What an answer looks like. -/
theorem Ans.form {w : World} {base : Nat} {v : Value} {zs : List Nat} (h : Ans w base v zs) : (v = .slice none 0 0 ∧ zs = []) ∨
    ∃ g cap, v = .slice (some ⟨g, 0, none⟩) zs.length cap ∧ base ≤ g ∧ g < w.heap.size ∧ zs.length ≤ cap ∧ cap ≤ 9223372036854775807 ∧ (∀ k, w.frozen? ⟨g, k, none⟩ = false) ∧ ∀ k, k < zs.length → w.cell? ⟨g, k, none⟩ = some (.int .u64 ((zs.getD k 0 : Nat) : Int)) := by
  have ho := h.own
  obtain ⟨_, h2⟩ := h.own
  rcases h2 with ⟨h1, h2⟩ | ⟨g, cap, cur, rfl, hg, hh, hn, hcm, hs, ht⟩
  · exact .inl ⟨h1, List.length_eq_zero_iff.1 h2⟩
  · refine .inr ⟨g, cap, rfl, hg, lt_of_block hh, hn, by unfold maxLen at hcm; omega, fun k => ho.frozenAt k, fun k hk => ?_⟩
    rw [ho.cellAt k (by omega)]
    simp [hk, lv, List.getD]

theorem Ans.arg {w : World} {base : Nat} {v : Value} {zs : List Nat} (h : Ans w base v zs) (hf : zs.length ≤ 1125899906842624) : Arg w v zs := by
  rcases h.form with ⟨rfl, rfl⟩ | ⟨g, cap, rfl, _, _, hl, hm, _, hc⟩
  · exact ⟨⟨none, 0, rfl, by simp, by simp, .inl rfl⟩, h.limbs, hf, fun n c e => by cases e; rfl⟩
  · exact ⟨⟨_, _, rfl, hl, hm, .inr ⟨g, 0, rfl, fun k hk => by rw [Nat.zero_add]; exact hc k hk⟩⟩, h.limbs, hf, fun n c e => by cases e⟩

theorem Ans.below {w w' : World} {base : Nat} {v : Value} {zs : List Nat} (h : Ans w base v zs) (hb : Below w.heap.size w w') : Ans w' base v zs := by
  refine ⟨?_, h.limbs⟩
  obtain ⟨h1, h2⟩ := h.own
  refine ⟨h1, ?_⟩
  rcases h2 with h2 | ⟨g, cap, cur, hv, hg, hh, r⟩
  · exact .inl h2
  · exact .inr ⟨g, cap, cur, hv, hg, by rw [hb.block g (lt_of_block hh)]; exact hh, r⟩

theorem Ans.base {w : World} {base base' : Nat} {v : Value} {zs : List Nat} (h : Ans w base v zs) (hb : base' ≤ base) : Ans w base' v zs := by
  refine ⟨?_, h.limbs⟩
  obtain ⟨h1, h2⟩ := h.own
  refine ⟨h1, ?_⟩
  rcases h2 with h2 | ⟨g, cap, cur, hv, hg, r⟩
  · exact .inl h2
  · exact .inr ⟨g, cap, cur, hv, Nat.le_trans hb hg, r⟩

/-- Without the noughts at the top. -/
theorem Ans.trim {w : World} {base : Nat} {ao : Option Addr} {cap : Nat} {zs : List Nat} (h : Ans w base (.slice ao zs.length cap) zs) : Ans w base (.slice ao (tr zs).length cap) (tr zs) := by
  refine ⟨?_, limbs_tr h.limbs⟩
  have hle := tr_length_le zs
  obtain ⟨_, h2⟩ := h.own
  refine ⟨by simp, ?_⟩
  rcases h2 with ⟨h1, h2⟩ | ⟨g, cap', cur, hv, hg, hh, hn, hcm, hs, ht⟩
  · have e : zs = [] := List.length_eq_zero_iff.1 h2
    subst e
    exact .inl ⟨h1, rfl⟩
  · cases hv
    refine .inr ⟨g, cap, cur, rfl, hg, hh, by omega, hcm, hs, ?_⟩
    have e : cur.toList.take ((tr zs).length * 1) = (cur.toList.take (zs.length * 1)).take (tr zs).length := by
      rw [List.take_take, Nat.mul_one, Nat.mul_one, Nat.min_eq_left hle]
    rw [e, ht, ← List.map_take, ← tr_take]

/-- What 'make' lays. -/
theorem Blk.made {w : World} {base n g : Nat} (h : w.ownsRow base 32 1 (.slice (some ⟨g, 0, none⟩) n n) n (madeCells (Value.int .u64 0).cells (n * 1)).toList) : Blk w g (List.replicate n 0) := by
  obtain ⟨_, h2⟩ := h
  rcases h2 with ⟨h2, _⟩ | ⟨g', cap, cur, hv, _, hh, _, _, hs, ht⟩
  · cases h2
  · cases hv
    unfold Blk
    rw [hh]
    have e : cur.toList = (List.replicate n 0).map lv := by
      have : cur.toList.take (n * 1) = cur.toList := List.take_of_length_le (by simp; omega)
      rw [← this, ht]
      show (madeCells #[Value.int .u64 0] (n * 1)).toList = _
      rw [toList_madeCells_one, List.map_replicate, Nat.mul_one]; rfl
    rw [← e]

theorem Tryz.infoU : (Tryz.prog.info? 32).map (fun i => (i.zero, i.size, i.bytes)) = some (some (.int .u64 0), 1, 8) := by kernel_rfl

theorem add64 (x y c : Nat) (hc : c ≤ 1) (w : World) :
    (callFunc 38 #[.int .u64 x, .int .u64 y, .int .u64 c]).run Tryz.prog w =
      .ok (.value (.tuple #[.int .u64 (((x + y + c) % 18446744073709551616 : Nat) : Int), .int .u64 (((x + y + c) / 18446744073709551616 : Nat) : Int)])) w := by
  rw [run_callFunc_extern Tryz.func38 (by kernel_rfl) (by kernel_rfl) (by kernel_rfl) (e := add64Entry) (by kernel_rfl), run_add64 x y c (by omega) (by omega) (by omega) (by omega)]
  simp only [Result.andThen]
  congr 5 <;> omega

theorem add64_0 (x y : Nat) (w : World) :
    (callFunc 38 #[.int .u64 x, .int .u64 y, .int .u64 0]).run Tryz.prog w =
      .ok (.value (.tuple #[.int .u64 (((x + y) % 18446744073709551616 : Nat) : Int), .int .u64 (((x + y) / 18446744073709551616 : Nat) : Int)])) w :=
  add64 x y 0 (by omega) w

end Go.Proofs.YtppblbhkghjphaaGreatDoor

/- Boxes: a cell put anew. -/
namespace Go.Proofs.YtppblbhkghjphaaGreatDoor
open Go.RowKit
open Lm

theorem below_drewN {B : Nat} {a w : World} (h : Below B a w) (n : Nat) : Below B a (w.drewN n) := ⟨h.os, h.tape, h.output, h.size, h.block⟩

theorem box_modify {w : World} {h k : Nat} {cs : Array Value} {t : TypeId} (e : w.heap[h]? = some (.cells cs t)) (u : Value) : (w.setCell ⟨h, k, none⟩ u).heap[h]? = some (.cells (cs.setIfInBounds k u) t) := by
  have hlt := lt_of_block e
  have h' : w.heap[h] = .cells cs t := by simpa [Array.getElem?_eq_getElem hlt] using e
  show (w.heap.modify h _)[h]? = _
  rw [Array.getElem?_eq_getElem (by simpa using hlt), Array.getElem_modify_self, h']
  rfl

theorem tr_len_lt (X : List Nat) (n : Nat) (h : val X < 18446744073709551616 ^ n) : (tr X).length ≤ n := by
  refine Nat.le_of_not_lt fun hlt => ?_
  obtain ⟨m, hm⟩ : ∃ m, (tr X).length = m + 1 := ⟨(tr X).length - 1, by omega⟩
  have h1 := tr_val_ge X m hm
  rw [val_tr] at h1
  have h2 : (18446744073709551616 : Nat) ^ n ≤ 18446744073709551616 ^ m := Nat.pow_le_pow_right (by omega) (by omega)
  omega

/-- A normal number in few bits has few limbs. -/
theorem few_ofW {rs : List Nat} {x n : Nat} (ht : tr rs = rs) (hv : val rs = x) (hb : blen x ≤ n * 64) : rs.length ≤ n := by
  rw [← ht]
  refine tr_len_lt rs n ?_
  rw [hv, W_pow]
  exact (blen_le_iff x _).1 hb

end Go.Proofs.YtppblbhkghjphaaGreatDoor

/- Lists that are laid by a literal. -/
namespace Go.Proofs.YtppblbhkghjphaaGreatDoor
open Go.RowKit
open Lm

theorem Blk.lits (w : World) (zs : List Nat) (cs : Array Value) (t : TypeId) (ht : t = 32) (h : cs = (zs.map lv).toArray) : Blk (w.alloc (.cells cs t)) w.heap.size zs := by
  subst h; subst ht
  unfold Blk
  rw [heap_alloc_new]

theorem Arg.lits (w : World) (zs : List Nat) (cs : Array Value) (n : Nat) (hn : n = zs.length) (h : cs = (zs.map lv).toArray) (hl : Limbs zs) (hf : zs.length ≤ 1000) : Arg (w.alloc (.cells cs 32)) (.slice (some ⟨w.heap.size, 0, none⟩) n n) zs := by
  subst hn
  have hb := Blk.lits w zs cs _ rfl h
  exact ⟨⟨_, _, rfl, Nat.le_refl _, by omega, .inr ⟨_, 0, rfl, fun k hk => by rw [Nat.zero_add]; exact hb.cell k hk⟩⟩, hl, by omega, fun n c e => by cases e⟩

end Go.Proofs.YtppblbhkghjphaaGreatDoor

/- Package nat: Length, answer, Add. -/
namespace Go.Proofs.YtppblbhkghjphaaGreatDoor
open Go.RowKit
open Lm


theorem length_any (v : Value) (zs : List Nat) (w : World) (h : Arg w v zs) :
    Calls Tryz.prog 19 #[v] w fun e w' => e = .returned (.int .i64 ((bl zs : Nat) : Int)) ∧ w' = w := by
  obtain ⟨ao, cap, rfl, hcap, hmax, hl⟩ := h.form
  have hle := tr_length_le zs
  have hlt := hl.tr
  have hlm := limbs_tr h.limbs
  have hfew := h.few
  by_cases h0 : tr zs = []
  · have e : bl zs = 0 := by simp [bl, h0]
    rw [e]
    have hn : (((tr zs).length : Int) == 0) = true := by simp [h0]
    clear e
    go_enter Tryz.func19, Tryz.ntmps19
    go_wp2_with fail
    refine (trim_any ao cap zs w hcap hmax hl).mono ?_
    rintro e w' ⟨rfl, rfl⟩
    go_wp2
    go_ret
    exact ⟨rfl, rfl⟩
  · rcases hlt with h1 | ⟨b, off, rfl, hc⟩
    · exact absurd h1 h0
    · have hpos : 0 < (tr zs).length := List.length_pos_iff.2 h0
      obtain ⟨n, hn⟩ : ∃ n, (tr zs).length = n + 1 := ⟨(tr zs).length - 1, by omega⟩
      have hcn := hc n (by omega)
      have hzn := limb_lt hlm n
      have e : bl zs = n * 64 + Lib.bitLen ((tr zs).getD n 0) := by simp [bl, h0, hn]
      rw [e]
      have htr := trim_any (some ⟨b, off, none⟩) cap zs w hcap hmax hl
      rw [hn] at htr
      generalize (tr zs).getD n 0 = z at *
      have hb := Lib.bitLen_le z 64 (by omega) (by omega)
      generalize hy : Lib.bitLen z = y at *
      have HY : Hid (Lib.bitLen z = y) := hy
      clear hy
      have HC := htr
      clear htr e h0 hc hl
      go_enter Tryz.func19, Tryz.ntmps19
      go_wp2_with fail
      refine HC.mono ?_
      rintro e w' ⟨rfl, rfl⟩
      go_wp2_with fail
      refine (Tryz.bits_Len64 _ _ (by omega) (by omega)).mono ?_
      rintro e w' ⟨rfl, rfl⟩
      rw [Int.toNat_natCast, HY.out]
      go_wp2
      go_ret
      exact ⟨by go_num, rfl⟩

theorem length_val (v : Value) (zs : List Nat) (w : World) (h : Arg w v zs) :
    Calls Tryz.prog 19 #[v] w fun e w' => e = .returned (.int .i64 ((blen (val zs) : Nat) : Int)) ∧ w' = w := by
  rw [← bl_eq h.limbs]; exact length_any v zs w h

/-- What a call answers whose number is s: the number, in new memory, or that it is too great. -/
def Res (w : World) (base : Nat) (e : Ending) (s : Nat) : Prop :=
  ∃ v c rs, e = .returned (.tuple #[v, .int .i64 c]) ∧ Ans w base v rs ∧ ((c = 0 ∧ val rs = s ∧ tr rs = rs ∧ blen s ≤ 67108864) ∨ (c = 3 ∧ rs = [] ∧ 67108864 < blen s))

theorem answer_own (v : Value) (base : Nat) (xs : List Nat) (w : World) (h : Ans w base v xs) (hf : xs.length ≤ 1125899906842624) :
    Calls Tryz.prog 40 #[v] w fun e w' => w' = w ∧ Res w base e (val xs) := by
  have ha := h.arg hf
  obtain ⟨ao, cap, rfl, hcap, hmax, hlies⟩ := ha.form
  have hle := tr_length_le xs
  have ht := ha.trim
  have H1 := trim_any _ cap xs w hcap hmax hlies
  have H2 := length_val _ _ _ ht
  rw [val_tr] at H2
  have HA : Hid (Ans w base (.slice ao (tr xs).length cap) (tr xs)) := h.trim
  have HT : Hid (tr (tr xs) = tr xs ∧ val (tr xs) = val xs) := ⟨tr_tr xs, val_tr xs⟩
  unfold Res
  generalize tr xs = T at *
  generalize val xs = V at *
  generalize blen V = y at *
  clear ht hlies h ha
  by_cases hy : y ≤ 67108864
  · go_enter Tryz.func40, Tryz.ntmps40
    go_wp2_with fail
    refine H1.mono ?_
    rintro e w' ⟨rfl, rfl⟩
    go_wp2_with fail
    refine H2.mono ?_
    rintro e w' ⟨rfl, rfl⟩
    go_wp2
    go_ret2
    exact ⟨rfl, _, _, T, rfl, HA.out, .inl ⟨rfl, HT.out.2, HT.out.1, hy⟩⟩
  · go_enter Tryz.func40, Tryz.ntmps40
    go_wp2_with fail
    refine H1.mono ?_
    rintro e w' ⟨rfl, rfl⟩
    go_wp2_with fail
    refine H2.mono ?_
    rintro e w' ⟨rfl, rfl⟩
    go_wp2
    go_ret2
    exact ⟨rfl, _, _, [], rfl, Ans.nil _ _, .inr ⟨rfl, rfl, by omega⟩⟩

theorem answer_blk (g base : Nat) (xs : List Nat) (w : World) (hb : Blk w g xs) (hl : Limbs xs) (hg : base ≤ g) (hf : xs.length ≤ 1125899906842624) :
    Calls Tryz.prog 40 #[.slice (some ⟨g, 0, none⟩) xs.length xs.length] w fun e w' => w' = w ∧ Res w base e (val xs) :=
  answer_own _ base xs w (Ans.of_blk hg hb List.take_length.symm (Nat.le_refl _) (by omega) hl) hf

end Go.Proofs.YtppblbhkghjphaaGreatDoor

/- Package nat: Add. -/
namespace Go.Proofs.YtppblbhkghjphaaGreatDoor
open Go.RowKit
open Lm
attribute [local go_sem ↓] Go.wp_at_zero Go.wp_at_succ

set_option maxHeartbeats 800000 in
theorem add_any (v1 v2 : Value) (zs ys : List Nat) (w : World) (h1 : Arg w v1 zs) (h2 : Arg w v2 ys) (f1 : zs.length ≤ 35184372088831) (f2 : ys.length ≤ 35184372088831) :
    Calls Tryz.prog 20 #[v1, v2] w fun e w' => Below w.heap.size w w' ∧ Res w' w.heap.size e (val zs + val ys) := by
  obtain ⟨a1, c1, rfl, hc1, hm1, hl1⟩ := h1.form
  obtain ⟨a2, c2, rfl, hc2, hm2, hl2⟩ := h2.form
  have H1 := trim_any a1 c1 zs w hc1 hm1 hl1
  have H2 := trim_any a2 c2 ys w hc2 hm2 hl2
  have l1 := tr_length_le zs
  have l2 := tr_length_le ys
  have L1 := hl1.tr
  have L2 := hl2.tr
  have M1 := limbs_tr h1.limbs
  have M2 := limbs_tr h2.limbs
  rw [← val_tr zs, ← val_tr ys]
  obtain ⟨i0, hi, hz0, hz1, hz2⟩ := info_parts Tryz.infoU
  generalize tr zs = Z at *
  generalize tr ys = Y at *
  by_cases hlt : Z.length < Y.length
  · rw [Nat.add_comm (val Z) (val Y)]
    go_enter Tryz.func20, Tryz.ntmps20
    go_wp2_with fail
    refine H1.mono ?_
    rintro e w' ⟨rfl, rfl⟩
    go_wp2_with fail
    refine H2.mono ?_
    rintro e w' ⟨rfl, rfl⟩
    clear H1 H2
    go_wp2_with (at_make; refine wpList_make_full _ rfl _ _ 24 rfl w'.heap.size 32 i0 (.int .u64 0) 1 Tryz.underlying24 hi hz0 hz1 .i64 .i64 _ _ (Y.length + 1) rfl rfl (by omega) (by omega) (by rw [hz2]; omega) (by unfold maxLen; omega) (Nat.le_refl _) ?_; intro w1 hown hgrow)
    have hb1 := Blk.made hown
    have hbel : Below w'.heap.size w' w1 := (Below.refl _ _).grown hgrow (Nat.le_refl _) (fun k hk => by cases hk)
    clear hown hgrow hi hz0 hz1 hz2
    go_loopw [7, 26] (fun c i wr => ∃ (k cy : Nat) (out : List Nat), k ≤ Y.length ∧ i = .int .i64 k ∧ c = .int .u64 cy ∧ cy ≤ 1 ∧ out.length = Y.length + 1 ∧ Limbs out ∧ Blk wr w'.heap.size out ∧ Below w'.heap.size w' wr ∧
        val (out.take k) + cy * 18446744073709551616 ^ k = val (Y.take k) + val (Z.take k)) (fun _ i _ => Y.length - (intOf i).toNat)
    case atStart => exact ⟨0, 0, _, Nat.zero_le _, rfl, rfl, by omega, by simp, limbs_replicate _, hb1, hbel, by simp [val]⟩
    case round =>
      obtain ⟨k, cy, out, hk, rfl, rfl, hcy, hlen, hlo, hblk, hbl, hval⟩ := hrel
      clear hb1 hbel
      have HV : Hid (val (out.take k) + cy * 18446744073709551616 ^ k = val (Y.take k) + val (Z.take k)) := hval
      clear hval
      have HB : Hid (Blk wr w'.heap.size out) := hblk
      have HL : Hid (Below w'.heap.size w' wr) := hbl
      have H42 := limb_any a1 c1 Z k wr.drew (by omega) hm1 (L1.below hbl.drew)
      by_cases hkl : k < Y.length
      · rcases L2.below hbl with h0 | ⟨b, off, rfl, hcell⟩
        · simp [h0] at hkl
        · have hck := hcell k hkl
          have hbw := Lies.block (L2 : Lies w' (some ⟨b, off, none⟩) Y) (by omega)
          have hne1 : ¬ b = w'.heap.size := by omega
          have hne2 : ¬ w'.heap.size = b := by omega
          have hfr := hblk.free k
          have hco := hblk.cell k (by omega)
          have ha := add64 (Y.getD k 0) (Z.getD k 0) cy hcy
          have hst := add_step Y Z out k cy (by omega) HV.out
          have HS : Hid (val ((out.set k ((Y.getD k 0 + Z.getD k 0 + cy) % 18446744073709551616)).take (k + 1)) + (Y.getD k 0 + Z.getD k 0 + cy) / 18446744073709551616 * 18446744073709551616 ^ (k + 1) = val (Y.take (k + 1)) + val (Z.take (k + 1))) := hst
          have z1 := limb_lt M2 k
          have z2 := limb_lt M1 k
          clear hst hcell hblk hbl HV L2 L1 M2 M1 hl1 hl2 h1 h2
          generalize Y.getD k 0 = x at *
          generalize Z.getD k 0 = y at *
          generalize out.getD k 0 = o at *
          have hs1 : (x + y + cy) % 18446744073709551616 < 18446744073709551616 := Nat.mod_lt _ (by omega)
          have hd1 : (x + y + cy) / 18446744073709551616 ≤ 1 := by omega
          generalize (x + y + cy) % 18446744073709551616 = s at *
          generalize (x + y + cy) / 18446744073709551616 = d at *
          have hi1 : (0 : Int) ≤ (k : Int) := by omega
          have hi2 : (k : Int) < (Y.length : Int) := by omega
          have hi3 : (k : Int) < (Y.length : Int) + 1 := by omega
          go_wp2
          go_region_held3 (fun w' => w'.cell? ⟨b, off + k, none⟩ = some (.int .u64 x)) (go_keep) (first | (go_at_call 39; refine H42.mono ?_; rintro e w2 ⟨rfl, rfl⟩))
          go_wp2
          go_roundw
          case rel => exact ⟨k + 1, d, out.set k s, by omega, by go_num, rfl, hd1, by simp; omega, limbs_set hlo _ _ hs1, HB.out.set k s, (HL.out.setCell (Nat.le_refl _) _).drew, HS.out⟩
          case measure => simp [intOf]; omega
      · have ek : k = Y.length := by omega
        subst ek
        have hfr := hblk.free Y.length
        have hco := hblk.cell Y.length (by omega)
        generalize out.getD Y.length 0 = o at *
        have hb2 := hblk.set Y.length cy
        have HA := answer_blk _ w'.heap.size _ _ hb2 (limbs_set hlo _ _ (by omega)) (Nat.le_refl _) (by simp; omega)
        have hvl : val (out.set Y.length cy) = val Y + val Z := by
          have e1 : (out.set Y.length cy).take (Y.length + 1) = out.set Y.length cy := List.take_of_length_le (by simp; omega)
          rw [← e1, take_set_succ _ _ _ (by omega), Nat.mul_comm, HV.out, List.take_length, List.take_of_length_le (by omega)]
        rw [List.length_set, hlen, hvl] at HA
        have HBel : Hid (Below w'.heap.size w' (wr.setCell ⟨w'.heap.size, Y.length, none⟩ (.int .u64 cy))) := hbl.setCell (Nat.le_refl _) _
        clear hvl hb2 hblk hbl HV H42 L2 L1 M2 M1 hl1 hl2 h1 h2 HB HL hlo
        go_wp2_with fail
        refine HA.mono ?_
        rintro e w2 ⟨rfl, hres⟩
        unfold Res at hres
        obtain ⟨v, c, rs, rfl, hans, hcase⟩ := hres
        have HX : Hid (Ans _ w'.heap.size v rs ∧ ((c = 0 ∧ val rs = val Y + val Z ∧ tr rs = rs ∧ blen (val Y + val Z) ≤ 67108864) ∨ (c = 3 ∧ rs = [] ∧ 67108864 < blen (val Y + val Z)))) := ⟨hans, hcase⟩
        clear hans hcase
        go_wp2
        go_ret2
        exact ⟨HBel.out, v, c, rs, rfl, HX.out⟩
  · go_enter Tryz.func20, Tryz.ntmps20
    go_wp2_with fail
    refine H1.mono ?_
    rintro e w' ⟨rfl, rfl⟩
    go_wp2_with fail
    refine H2.mono ?_
    rintro e w' ⟨rfl, rfl⟩
    clear H1 H2
    go_wp2_with (at_make; refine wpList_make_full _ rfl _ _ 24 rfl w'.heap.size 32 i0 (.int .u64 0) 1 Tryz.underlying24 hi hz0 hz1 .i64 .i64 _ _ (Z.length + 1) rfl rfl (by omega) (by omega) (by rw [hz2]; omega) (by unfold maxLen; omega) (Nat.le_refl _) ?_; intro w1 hown hgrow)
    have hb1 := Blk.made hown
    have hbel : Below w'.heap.size w' w1 := (Below.refl _ _).grown hgrow (Nat.le_refl _) (fun k hk => by cases hk)
    clear hown hgrow hi hz0 hz1 hz2
    go_loopw [7, 26] (fun c i wr => ∃ (k cy : Nat) (out : List Nat), k ≤ Z.length ∧ i = .int .i64 k ∧ c = .int .u64 cy ∧ cy ≤ 1 ∧ out.length = Z.length + 1 ∧ Limbs out ∧ Blk wr w'.heap.size out ∧ Below w'.heap.size w' wr ∧
        val (out.take k) + cy * 18446744073709551616 ^ k = val (Z.take k) + val (Y.take k)) (fun _ i _ => Z.length - (intOf i).toNat)
    case atStart => exact ⟨0, 0, _, Nat.zero_le _, rfl, rfl, by omega, by simp, limbs_replicate _, hb1, hbel, by simp [val]⟩
    case round =>
      obtain ⟨k, cy, out, hk, rfl, rfl, hcy, hlen, hlo, hblk, hbl, hval⟩ := hrel
      clear hb1 hbel
      have HV : Hid (val (out.take k) + cy * 18446744073709551616 ^ k = val (Z.take k) + val (Y.take k)) := hval
      clear hval
      have HB : Hid (Blk wr w'.heap.size out) := hblk
      have HL : Hid (Below w'.heap.size w' wr) := hbl
      have H42 := limb_any a2 c2 Y k wr.drew (by omega) hm2 (L2.below hbl.drew)
      by_cases hkl : k < Z.length
      · rcases L1.below hbl with h0 | ⟨b, off, rfl, hcell⟩
        · simp [h0] at hkl
        · have hck := hcell k hkl
          have hbw := Lies.block (L1 : Lies w' (some ⟨b, off, none⟩) Z) (by omega)
          have hne1 : ¬ b = w'.heap.size := by omega
          have hne2 : ¬ w'.heap.size = b := by omega
          have hfr := hblk.free k
          have hco := hblk.cell k (by omega)
          have ha := add64 (Z.getD k 0) (Y.getD k 0) cy hcy
          have hst := add_step Z Y out k cy (by omega) HV.out
          have HS : Hid (val ((out.set k ((Z.getD k 0 + Y.getD k 0 + cy) % 18446744073709551616)).take (k + 1)) + (Z.getD k 0 + Y.getD k 0 + cy) / 18446744073709551616 * 18446744073709551616 ^ (k + 1) = val (Z.take (k + 1)) + val (Y.take (k + 1))) := hst
          have z1 := limb_lt M1 k
          have z2 := limb_lt M2 k
          clear hst hcell hblk hbl HV L1 L2 M1 M2 hl1 hl2 h1 h2
          generalize Z.getD k 0 = x at *
          generalize Y.getD k 0 = y at *
          generalize out.getD k 0 = o at *
          have hs1 : (x + y + cy) % 18446744073709551616 < 18446744073709551616 := Nat.mod_lt _ (by omega)
          have hd1 : (x + y + cy) / 18446744073709551616 ≤ 1 := by omega
          generalize (x + y + cy) % 18446744073709551616 = s at *
          generalize (x + y + cy) / 18446744073709551616 = d at *
          have hi1 : (0 : Int) ≤ (k : Int) := by omega
          have hi2 : (k : Int) < (Z.length : Int) := by omega
          have hi3 : (k : Int) < (Z.length : Int) + 1 := by omega
          go_wp2
          go_region_held3 (fun w' => w'.cell? ⟨b, off + k, none⟩ = some (.int .u64 x)) (go_keep) (first | (go_at_call 39; refine H42.mono ?_; rintro e w2 ⟨rfl, rfl⟩))
          go_wp2
          go_roundw
          case rel => exact ⟨k + 1, d, out.set k s, by omega, by go_num, rfl, hd1, by simp; omega, limbs_set hlo _ _ hs1, HB.out.set k s, (HL.out.setCell (Nat.le_refl _) _).drew, HS.out⟩
          case measure => simp [intOf]; omega
      · have ek : k = Z.length := by omega
        subst ek
        have hfr := hblk.free Z.length
        have hco := hblk.cell Z.length (by omega)
        generalize out.getD Z.length 0 = o at *
        have hb2 := hblk.set Z.length cy
        have HA := answer_blk _ w'.heap.size _ _ hb2 (limbs_set hlo _ _ (by omega)) (Nat.le_refl _) (by simp; omega)
        have hvl : val (out.set Z.length cy) = val Z + val Y := by
          have e1 : (out.set Z.length cy).take (Z.length + 1) = out.set Z.length cy := List.take_of_length_le (by simp; omega)
          rw [← e1, take_set_succ _ _ _ (by omega), Nat.mul_comm, HV.out, List.take_length, List.take_of_length_le (by omega)]
        rw [List.length_set, hlen, hvl] at HA
        have HBel : Hid (Below w'.heap.size w' (wr.setCell ⟨w'.heap.size, Z.length, none⟩ (.int .u64 cy))) := hbl.setCell (Nat.le_refl _) _
        clear hvl hb2 hblk hbl HV H42 L1 L2 M1 M2 hl1 hl2 h1 h2 HB HL hlo
        go_wp2_with fail
        refine HA.mono ?_
        rintro e w2 ⟨rfl, hres⟩
        unfold Res at hres
        obtain ⟨v, c, rs, rfl, hans, hcase⟩ := hres
        have HX : Hid (Ans _ w'.heap.size v rs ∧ ((c = 0 ∧ val rs = val Z + val Y ∧ tr rs = rs ∧ blen (val Z + val Y) ≤ 67108864) ∨ (c = 3 ∧ rs = [] ∧ 67108864 < blen (val Z + val Y)))) := ⟨hans, hcase⟩
        clear hans hcase
        go_wp2
        go_ret2
        exact ⟨HBel.out, v, c, rs, rfl, HX.out⟩
end Go.Proofs.YtppblbhkghjphaaGreatDoor

/- Package nat: Compare. -/
namespace Go.Proofs.YtppblbhkghjphaaGreatDoor
open Go.RowKit
open Lm
attribute [local go_sem ↓] Go.wp_at_zero Go.wp_at_succ

theorem cmpU (x y : Nat) (w : World) :
    Calls Tryz.prog 59 #[.int .u64 x, .int .u64 y] w fun e w' => e = .returned (.int .i64 (cmpN x y)) ∧ w' = w := by
  rcases Nat.lt_trichotomy x y with h | h | h
  · rw [cmpN_lt h]
    have h1 : (x : Int) < (y : Int) := by omega
    go_enter Tryz.func59, Tryz.ntmps59
    go_wp2
    go_ret
    exact ⟨rfl, rfl⟩
  · subst h
    rw [cmpN_self]
    go_enter Tryz.func59, Tryz.ntmps59
    go_wp2
    go_ret
    exact ⟨rfl, rfl⟩
  · rw [cmpN_gt h]
    have h1 : ¬ (x : Int) < (y : Int) := by omega
    have h2 : (y : Int) < (x : Int) := by omega
    go_enter Tryz.func59, Tryz.ntmps59
    go_wp2
    go_ret
    exact ⟨rfl, rfl⟩

theorem cmpI (x y : Nat) (w : World) :
    Calls Tryz.prog 58 #[.int .i64 x, .int .i64 y] w fun e w' => e = .returned (.int .i64 (cmpN x y)) ∧ w' = w := by
  have e : cmpN x y = Lib.compareInt x y := by
    unfold cmpN Lib.compareInt
    simp
  rw [e]
  exact Tryz.cmp_Compare_int x y w

/-- The world behind a call that only reads: as it was, but for draws. -/
structure Same (w w' : World) : Prop where
  heap : w'.heap = w.heap
  os : w'.os = w.os
  tape : w'.tape = w.tape
  output : w'.output = w.output

theorem Same.below {w w' : World} (h : Same w w') (B : Nat) : Below B w w' := ⟨h.os, h.tape, h.output, by rw [h.heap]; exact Nat.le_refl _, fun _ _ => by rw [h.heap]⟩
theorem Same.refl (w : World) : Same w w := ⟨rfl, rfl, rfl, rfl⟩
theorem Same.trans {a b c : World} (h : Same a b) (k : Same b c) : Same a c := ⟨k.heap.trans h.heap, k.os.trans h.os, k.tape.trans h.tape, k.output.trans h.output⟩
theorem Same.drew {a b : World} (h : Same a b) : Same a b.drew := ⟨h.heap, h.os, h.tape, h.output⟩
theorem Same.drewN {a b : World} (h : Same a b) (n : Nat) : Same a (b.drewN n) := ⟨h.heap, h.os, h.tape, h.output⟩
theorem Same.size {w w' : World} (h : Same w w') : w'.heap.size = w.heap.size := by rw [h.heap]

set_option maxHeartbeats 800000 in
theorem compare_any (v1 v2 : Value) (zs ys : List Nat) (w : World) (h1 : Arg w v1 zs) (h2 : Arg w v2 ys) :
    Calls Tryz.prog 44 #[v1, v2] w fun e w' => e = .returned (.int .i64 (cmpN (val zs) (val ys))) ∧ Same w w' := by
  obtain ⟨a1, c1, rfl, hc1, hm1, hl1⟩ := h1.form
  obtain ⟨a2, c2, rfl, hc2, hm2, hl2⟩ := h2.form
  have H1 := trim_any a1 c1 zs w hc1 hm1 hl1
  have H2 := trim_any a2 c2 ys w hc2 hm2 hl2
  have l1 := tr_length_le zs
  have l2 := tr_length_le ys
  have L1 := hl1.tr
  have L2 := hl2.tr
  have M1 := limbs_tr h1.limbs
  have M2 := limbs_tr h2.limbs
  have f1 := h1.few
  have f2 := h2.few
  rw [← val_tr zs, ← val_tr ys]
  by_cases hlt : (tr zs).length = (tr ys).length
  · have HL : Hid ((tr ys).length = (tr zs).length) := hlt.symm
    rw [← hlt] at H2
    clear hlt
    generalize tr zs = Z at *
    generalize tr ys = Y at *
    go_enter Tryz.func44, Tryz.ntmps44
    go_wp2_with fail
    refine H1.mono ?_
    rintro e w' ⟨rfl, rfl⟩
    go_wp2_with fail
    refine H2.mono ?_
    rintro e w' ⟨rfl, rfl⟩
    clear H1 H2
    go_wp2
    go_loopw [26] (fun i wr => ∃ k : Nat, k ≤ Z.length ∧ i = .int .i64 k ∧ Same w' wr ∧ cmpN (val (Z.take (Z.length - k))) (val (Y.take (Z.length - k))) = cmpN (val Z) (val Y)) (fun i _ => Z.length - (intOf i).toNat)
    case atStart => exact ⟨0, Nat.zero_le _, rfl, Same.refl _, by rw [Nat.sub_zero, List.take_length, ← HL.out, List.take_length]⟩
    case round =>
      obtain ⟨k, hk, rfl, hsame, hv⟩ := hrel
      have HV : Hid (cmpN (val (Z.take (Z.length - k))) (val (Y.take (Z.length - k))) = cmpN (val Z) (val Y)) := hv
      clear hv
      by_cases hkl : k < Z.length
      · rcases L1.below (hsame.below _) with h0 | ⟨b, off, rfl, hcell⟩
        · simp [h0] at hkl
        · rcases L2.below (hsame.below _) with h0 | ⟨b', off', rfl, hcell'⟩
          · have := HL.out; simp [h0] at this; omega
          · have hck := hcell (Z.length - 1 - k) (by omega)
            have hck' := hcell' (Z.length - 1 - k) (by have := HL.out; omega)
            have ek : Z.length - k = (Z.length - 1 - k) + 1 := by omega
            have hje : (Z.length : Int) - 1 - (k : Int) = ((Z.length - 1 - k : Nat) : Int) := by omega
            have hjl : Z.length - 1 - k < Z.length := by omega
            have ek2 : Z.length - (k + 1) = Z.length - 1 - k := by omega
            generalize Z.length - 1 - k = j at *
            have hi1 : (0 : Int) ≤ (j : Int) := by omega
            have hi2 : (j : Int) < (Z.length : Int) := by omega
            have hwj : IntKind.i64.wrap (j : Int) = (j : Int) := by rw [IntKind.wrap_i64]; omega
            have hwr : IntKind.i64.wrap ((Z.length : Int) - 1 - (k : Int)) = (j : Int) := by rw [IntKind.wrap_i64]; omega
            by_cases hxy : Z.getD j 0 = Y.getD j 0
            · have HN : Hid (cmpN (val (Z.take (Z.length - (k + 1)))) (val (Y.take (Z.length - (k + 1)))) = cmpN (val Z) (val Y)) := by
                rw [← HV.out, ek, cmp_same _ hxy, ek2]; rfl
              rw [hxy] at hck
              generalize Y.getD j 0 = y at *
              clear hcell hcell' HV ek ek2 L1 L2 M1 M2 hl1 hl2 h1 h2
              go_wp2
              go_quiet (fail)
              go_wp2
              go_roundw
              case rel => exact ⟨k + 1, by omega, by go_num, hsame.drewN _, HN.out⟩
              case measure => simp [intOf]; omega
            · have HN : Hid (cmpN (Z.getD j 0) (Y.getD j 0) = cmpN (val Z) (val Y)) := by
                rw [← HV.out, ek, cmp_top M1 M2 _ hxy]; rfl
              have hne : (((Z.getD j 0 : Nat) : Int) != ((Y.getD j 0 : Nat) : Int)) = true := by rw [bne_iff_ne]; omega
              clear hxy
              generalize Z.getD j 0 = x at *
              generalize Y.getD j 0 = y at *
              clear hcell hcell' HV ek ek2 L1 L2 M1 M2 hl1 hl2 h1 h2
              go_wp2
              go_quiet (fail)
              go_wp2
              go_region_held3 (fun w2 => w2.cell? ⟨b, off + j, none⟩ = some (.int .u64 x) ∧ w2.cell? ⟨b', off' + j, none⟩ = some (.int .u64 y)) (go_keep) (first | (go_at_call 59; refine (cmpU _ _ _).mono ?_; rintro e w2 ⟨rfl, rfl⟩))
              go_wp2
              go_ret
              rw [HN.out]
              exact ⟨rfl, hsame.drewN _⟩
      · have ek : k = Z.length := by omega
        subst ek
        have HN : Hid (cmpN (val Z) (val Y) = 0) := by rw [← HV.out, Nat.sub_self]; rfl
        clear HV L1 L2 M1 M2 hl1 hl2 h1 h2
        go_wp2
        go_ret
        rw [HN.out]
        exact ⟨rfl, hsame⟩
  · have HN : Hid (cmpN (tr zs).length (tr ys).length = cmpN (val (tr zs)) (val (tr ys))) := (cmp_len h1.limbs h2.limbs hlt).symm
    have hne : (((tr zs).length : Int) != ((tr ys).length : Int)) = true := by rw [bne_iff_ne]; omega
    clear hlt
    generalize tr zs = Z at *
    generalize tr ys = Y at *
    clear L1 L2 M1 M2 hl1 hl2 h1 h2
    go_enter Tryz.func44, Tryz.ntmps44
    go_wp2_with fail
    refine H1.mono ?_
    rintro e w' ⟨rfl, rfl⟩
    go_wp2_with fail
    refine H2.mono ?_
    rintro e w' ⟨rfl, rfl⟩
    clear H1 H2
    go_wp2_with fail
    refine (cmpI _ _ _).mono ?_
    rintro e w2 ⟨rfl, rfl⟩
    rw [HN.out]
    go_wp2
    go_ret
    exact ⟨rfl, Same.refl _⟩

end Go.Proofs.YtppblbhkghjphaaGreatDoor

/- Package nat: Sub. -/
namespace Go.Proofs.YtppblbhkghjphaaGreatDoor
open Go.RowKit
open Lm
attribute [local go_sem ↓] Go.wp_at_zero Go.wp_at_succ

theorem sub64 (x y b : Nat) (hb : b ≤ 1) (w : World) :
    (callFunc 65 #[.int .u64 x, .int .u64 y, .int .u64 b]).run Tryz.prog w =
      .ok (.value (.tuple #[.int .u64 (((x + 18446744073709551616 - y - b) % 18446744073709551616 : Nat) : Int), .int .u64 ((bor x y b : Nat) : Int)])) w := by
  rw [run_callFunc_extern Tryz.func65 (by kernel_rfl) (by kernel_rfl) (by kernel_rfl) (e := sub64Entry) (by kernel_rfl), run_sub64 x y b hb]
  rfl

theorem bor_le (x y b : Nat) : bor x y b ≤ 1 := by unfold bor; split <;> omega

theorem sub_end {Z Y out : List Nat} (ho : Limbs out) (hl : out.length = Z.length) (hyl : Y.length ≤ Z.length) (hle : val Y ≤ val Z) (bw : Nat) (_hbw : bw ≤ 1)
    (h : val (out.take Z.length) + val (Y.take Z.length) = val (Z.take Z.length) + bw * 18446744073709551616 ^ Z.length) : val out = val Z - val Y := by
  rw [List.take_of_length_le (by omega), List.take_of_length_le (by omega), List.take_length] at h
  have h1 := val_lt ho
  rw [hl] at h1
  rcases Nat.eq_zero_or_pos bw with h0 | h0
  · subst h0; omega
  · have e : bw = 1 := by omega
    subst e
    omega

set_option maxRecDepth 20000 in
set_option maxHeartbeats 800000 in
theorem sub_any (v1 v2 : Value) (zs ys : List Nat) (w : World) (h1 : Arg w v1 zs) (h2 : Arg w v2 ys) (f1 : zs.length ≤ 35184372088831) :
    Calls Tryz.prog 48 #[v1, v2] w fun e w' => Below w.heap.size w w' ∧
      ((val zs < val ys ∧ e = .returned (.tuple #[.slice none 0 0, .int .i64 10])) ∨ (val ys ≤ val zs ∧ Res w' w.heap.size e (val zs - val ys))) := by
  have HC := compare_any v1 v2 zs ys w h1 h2
  by_cases hlt : val zs < val ys
  · rw [cmpN_lt hlt] at HC
    obtain ⟨a1, c1, rfl, hc1, hm1, hl1⟩ := h1.form
    obtain ⟨a2, c2, rfl, hc2, hm2, hl2⟩ := h2.form
    clear hl1 hl2 h1 h2
    have HX : Hid (val zs < val ys) := hlt
    clear hlt
    go_enter Tryz.func48, Tryz.ntmps48
    go_wp2_with fail
    refine HC.mono ?_
    rintro e w1 ⟨rfl, hs⟩
    go_wp2
    go_ret2
    exact ⟨hs.below _, .inl ⟨HX.out, rfl⟩⟩
  · have hcm : (0 : Int) ≤ cmpN (val zs) (val ys) := by
      rcases cmpN_range (val zs) (val ys) with h | h | h <;> omega
    have hcr : cmpN (val zs) (val ys) ≤ 1 := by
      rcases cmpN_range (val zs) (val ys) with h | h | h <;> omega
    have HX : Hid (val ys ≤ val zs) := Nat.le_of_not_lt hlt
    have HLen : Hid ((tr ys).length ≤ (tr zs).length) := by
      refine Nat.le_of_not_lt fun h => ?_
      have := shorter_lt h1.limbs h
      rw [val_tr, val_tr] at this
      exact hlt this
    clear hlt
    generalize cmpN (val zs) (val ys) = cc at *
    obtain ⟨i0, hi, hz0, hz1, hz2⟩ := info_parts Tryz.infoU
    obtain ⟨a1, c1, rfl, hc1, hm1, hl1⟩ := h1.form
    obtain ⟨a2, c2, rfl, hc2, hm2, hl2⟩ := h2.form
    have M1 := limbs_tr h1.limbs
    have M2 := limbs_tr h2.limbs
    have l1 := tr_length_le zs
    have l2 := tr_length_le ys
    go_enter Tryz.func48, Tryz.ntmps48
    go_wp2_with fail
    refine HC.mono ?_
    rintro e w1 ⟨rfl, hs⟩
    have H1 := trim_any a1 c1 zs w1 hc1 hm1 (hl1.below (hs.below _))
    have H2 := trim_any a2 c2 ys w1 hc2 hm2 (hl2.below (hs.below _))
    have L1 := (hl1.below (hs.below _)).tr
    have L2 := (hl2.below (hs.below _)).tr
    have HS : Hid (Below w.heap.size w w1 ∧ w1.heap.size = w.heap.size) := ⟨hs.below _, hs.size⟩
    clear hs HC
    go_wp2_with fail
    refine H1.mono ?_
    rintro e w' ⟨rfl, rfl⟩
    go_wp2_with fail
    refine H2.mono ?_
    rintro e w' ⟨rfl, rfl⟩
    clear H1 H2
    go_wp2_with (at_make; refine wpList_make_full _ rfl _ _ 24 rfl w'.heap.size 32 i0 (.int .u64 0) 1 Tryz.underlying24 hi hz0 hz1 .i64 .i64 _ _ (tr zs).length rfl rfl (by omega) (by omega) (by rw [hz2]; omega) (by unfold maxLen; omega) (Nat.le_refl _) ?_; intro wm hown hgrow)
    have hb1 := Blk.made hown
    have hbel : Below w'.heap.size w' wm := (Below.refl _ _).grown hgrow (Nat.le_refl _) (fun k hk => by cases hk)
    clear hown hgrow hi hz0 hz1 hz2
    go_loopw [7, 22] (fun c i wr => ∃ (k cy : Nat) (out : List Nat), k ≤ (tr zs).length ∧ i = .int .i64 k ∧ c = .int .u64 cy ∧ cy ≤ 1 ∧ out.length = (tr zs).length ∧ Limbs out ∧ Blk wr w'.heap.size out ∧ Below w'.heap.size w' wr ∧
        val (out.take k) + val ((tr ys).take k) = val ((tr zs).take k) + cy * 18446744073709551616 ^ k) (fun _ i _ => (tr zs).length - (intOf i).toNat)
    case atStart => exact ⟨0, 0, _, Nat.zero_le _, rfl, rfl, by omega, by simp, limbs_replicate _, hb1, hbel, by simp [val]⟩
    case round =>
      obtain ⟨k, cy, out, hk, rfl, rfl, hcy, hlen, hlo, hblk, hbl, hval⟩ := hrel
      clear hb1 hbel
      have HV : Hid (val (out.take k) + val ((tr ys).take k) = val ((tr zs).take k) + cy * 18446744073709551616 ^ k) := hval
      clear hval
      have HB : Hid (Blk wr w'.heap.size out) := hblk
      have HL : Hid (Below w'.heap.size w' wr) := hbl
      by_cases hkl : k < (tr zs).length
      · rcases L1.below hbl with h0 | ⟨b, off, rfl, hcell⟩
        · simp [h0] at hkl
        · have H42 := limb_any a2 c2 (tr ys) k wr.drew (by omega) hm2 (L2.below hbl.drew)
          have hck := hcell k hkl
          have hbw := Lies.block (L1 : Lies w' (some ⟨b, off, none⟩) (tr zs)) (by omega)
          have hne1 : ¬ b = w'.heap.size := by omega
          have hne2 : ¬ w'.heap.size = b := by omega
          have hfr := hblk.free k
          have hco := hblk.cell k (by omega)
          have ha := sub64 ((tr zs).getD k 0) ((tr ys).getD k 0) cy hcy
          have z1 := limb_lt M1 k
          have z2 := limb_lt M2 k
          have hst := sub_step (tr zs) (tr ys) out k cy (by omega) z1 z2 hcy HV.out
          have hd1 := bor_le ((tr zs).getD k 0) ((tr ys).getD k 0) cy
          generalize bor ((tr zs).getD k 0) ((tr ys).getD k 0) cy = d at *
          generalize (tr zs).getD k 0 = x at *
          generalize (tr ys).getD k 0 = y at *
          generalize out.getD k 0 = o at *
          have hs1 : (x + 18446744073709551616 - y - cy) % 18446744073709551616 < 18446744073709551616 := Nat.mod_lt _ (by omega)
          generalize (x + 18446744073709551616 - y - cy) % 18446744073709551616 = s at *
          have HS' : Hid (val ((out.set k s).take (k + 1)) + val ((tr ys).take (k + 1)) = val ((tr zs).take (k + 1)) + d * 18446744073709551616 ^ (k + 1)) := hst
          clear hst hcell hblk hbl HV L1 L2 M1 M2 hl1 hl2 h1 h2
          have hi1 : (0 : Int) ≤ (k : Int) := by omega
          have hi2 : (k : Int) < ((tr zs).length : Int) := by omega
          go_wp2
          go_region_held3 (fun w' => w'.cell? ⟨b, off + k, none⟩ = some (.int .u64 x)) (go_keep) (first | (go_at_call 39; refine H42.mono ?_; rintro e w2 ⟨rfl, rfl⟩))
          go_wp2
          go_roundw
          case rel => exact ⟨k + 1, d, out.set k s, by omega, by go_num, rfl, hd1, by simp; omega, limbs_set hlo _ _ hs1, HB.out.set k s, (HL.out.setCell (Nat.le_refl _) _).drew, HS'.out⟩
          case measure => simp [intOf]; omega
      · have ek : k = (tr zs).length := by omega
        subst ek
        have HA := answer_blk _ w'.heap.size _ _ hblk hlo (Nat.le_refl _) (by omega)
        have hvl : val out = val zs - val ys := by
          have := sub_end hlo hlen HLen.out (by rw [val_tr, val_tr]; exact HX.out) cy hcy HV.out
          rw [val_tr, val_tr] at this; exact this
        rw [hlen, hvl] at HA
        clear hvl hblk hbl HV L1 L2 M1 M2 hl1 hl2 h1 h2 HB hlo
        go_wp2_with fail
        refine HA.mono ?_
        rintro e w2 ⟨rfl, hres⟩
        unfold Res at hres
        obtain ⟨v, c, rs, rfl, hans, hcase⟩ := hres
        rw [HS.out.2] at hans
        have HX2 : Hid (Ans _ w.heap.size v rs ∧ ((c = 0 ∧ val rs = val zs - val ys ∧ tr rs = rs ∧ blen (val zs - val ys) ≤ 67108864) ∨ (c = 3 ∧ rs = [] ∧ 67108864 < blen (val zs - val ys)))) := ⟨hans, hcase⟩
        clear hans hcase
        go_wp2
        go_ret2
        refine ⟨HS.out.1.trans ?_, .inr ⟨HX.out, v, c, rs, rfl, HX2.out⟩⟩
        have := HL.out
        rw [HS.out.2] at this
        exact this

end Go.Proofs.YtppblbhkghjphaaGreatDoor

/- Package nat: mayShift, Left. -/
namespace Go.Proofs.YtppblbhkghjphaaGreatDoor
open Go.RowKit
open Lm

theorem mayShift_yes (n : Int) (w : World) (h0 : 0 ≤ n) (h1 : n ≤ 1099511627776) :
    Calls Tryz.prog 50 #[.int .i64 n] w fun e w' => e = .returned (.bool true) ∧ w' = w := by
  go_enter Tryz.func50, Tryz.ntmps50
  go_wp2
  go_ret
  exact ⟨rfl, rfl⟩

theorem mayShift_no (n : Int) (w : World) (h : n < 0 ∨ 1099511627776 < n) :
    Calls Tryz.prog 50 #[.int .i64 n] w fun e w' => e = .returned (.bool false) ∧ w' = w := by
  rcases h with h | h
  · go_enter Tryz.func50, Tryz.ntmps50
    go_wp2
    go_ret
    exact ⟨rfl, rfl⟩
  · have hd : decide (n ≤ 1099511627776) = false := by simp; omega
    go_enter Tryz.func50, Tryz.ntmps50
    go_wp2
    go_ret
    exact ⟨rfl, rfl⟩

end Go.Proofs.YtppblbhkghjphaaGreatDoor

/- Package nat: fresh, Low. -/
namespace Go.Proofs.YtppblbhkghjphaaGreatDoor
open Go.RowKit
open Lm

theorem lv_oneCell (zs : List Nat) : ∀ u ∈ zs.map lv, u.oneCell' = true := by
  intro u hu
  obtain ⟨z, _, rfl⟩ := List.mem_map.1 hu
  rfl

theorem add_none (b off j : Nat) : (⟨b, off, none⟩ : Addr).add j = ⟨b, off + j, none⟩ := by
  unfold Addr.add
  split <;> simp_all

set_option maxRecDepth 20000 in
set_option maxHeartbeats 400000 in
theorem fresh_any (v : Value) (zs : List Nat) (w : World) (h : Arg w v zs) (hb : zs.length ≤ 17592186044416) :
    Calls Tryz.prog 92 #[v] w fun e w' => (∃ v', e = .returned v' ∧ Ans w' w.heap.size v' zs) ∧ Below w.heap.size w w' := by
  obtain ⟨ao, cap, rfl, hcap, hmax, hl⟩ := h.form
  obtain ⟨i0, hi, hz0, hz1, hz2⟩ := info_parts Tryz.infoU
  have HL := h.limbs
  cases ao with
  | none =>
    have hc0 := h.nz _ _ rfl
    subst hc0
    have hz : zs = [] := List.length_eq_zero_iff.1 (by omega)
    subst hz
    clear hl h
    go_enter Tryz.func92, Tryz.ntmps92
    go_wp2_with (at_builtin; refine wpList_append_own_none rfl _ _ 24 rfl w.heap.size 32 i0 1 Tryz.underlying24 hi _ 0 [] rfl (World.ownsRow_nil _ _ _ _) rfl ?_)
    go_ret
    exact ⟨⟨_, rfl, Ans.nil _ _⟩, Below.refl _ _⟩
  | some ad =>
    have hnews : ∀ j u, (zs.map lv)[j]? = some u → w.cell? (ad.add j) = some u := by
      intro j u hj
      rcases hl with rfl | ⟨b, off, he, hc⟩
      · simp at hj
      · cases he
        rw [List.getElem?_map] at hj
        obtain ⟨z, hz, rfl⟩ := Option.map_eq_some_iff.1 hj
        have hjl : j < zs.length := (List.getElem?_eq_some_iff.1 hz).1
        have := hc j hjl
        simp only [List.getD, hz, Option.getD_some] at this
        rw [add_none]
        exact this
    clear hl h
    go_enter Tryz.func92, Tryz.ntmps92
    go_wp2_with (at_builtin; refine wpList_append_own _ rfl _ _ 24 rfl w.heap.size 32 i0 (.int .u64 0) 1 8 Tryz.underlying24 hi hz0 hz1 hz2 rfl (by decide) _ 0 [] rfl (World.ownsRow_nil _ _ _ _) ad zs.length cap (zs.map lv) rfl (by simp) hnews (lv_oneCell zs) (by unfold maxLen; omega) (by omega) (Nat.le_refl _) ?_; intro v' w1 hown hgrow _)
    rw [Nat.zero_add, List.nil_append] at hown
    have HA : Hid (Ans w1 w.heap.size v' zs) := ⟨hown, HL⟩
    have HB : Hid (Below w.heap.size w w1) := (Below.refl _ _).grown hgrow (Nat.le_refl _) (fun k hk => by cases hk)
    clear hown hgrow hnews
    go_wp2
    go_ret
    exact ⟨⟨_, rfl, HA.out⟩, HB.out⟩

end Go.Proofs.YtppblbhkghjphaaGreatDoor

/- Package nat: Right. -/
namespace Go.Proofs.YtppblbhkghjphaaGreatDoor
open Go.RowKit
open Lm
attribute [local go_sem ↓] Go.wp_at_zero Go.wp_at_succ

theorem right_no (v : Value) (n : Int) (w : World) (h : n < 0 ∨ 1099511627776 < n) :
    Calls Tryz.prog 41 #[v, .int .i64 n] w fun e w' => e = .returned (.tuple #[.slice none 0 0, .int .i64 1]) ∧ w' = w := by
  have H := mayShift_no n w h
  clear h
  go_enter Tryz.func41, Tryz.ntmps41
  go_wp2_with fail
  refine H.mono ?_
  rintro e w' ⟨rfl, rfl⟩
  go_wp2
  go_ret2
  exact ⟨rfl, rfl⟩

set_option maxRecDepth 20000 in
set_option maxHeartbeats 800000 in
theorem right_any (v : Value) (zs : List Nat) (n : Nat) (w : World) (h1 : Arg w v zs) (f1 : zs.length ≤ 35184372088831) (hn : n ≤ 1099511627776) :
    Calls Tryz.prog 41 #[v, .int .i64 n] w fun e w' => Below w.heap.size w w' ∧ Res w' w.heap.size e (val zs / 2 ^ n) := by
  obtain ⟨a1, c1, rfl, hc1, hm1, hl1⟩ := h1.form
  have H0 := mayShift_yes n w (by omega) (by omega)
  have H1 := trim_any a1 c1 zs w hc1 hm1 hl1
  have l1 := tr_length_le zs
  have L1 := hl1.tr
  have M1 := limbs_tr h1.limbs
  obtain ⟨q, s, hs, hnq⟩ : ∃ q s, s < 64 ∧ n = q * 64 + s := ⟨n / 64, n % 64, by omega, by omega⟩
  have eq1 : (n : Int) / 64 = (q : Int) := by omega
  have eq2 : (n : Int) % 64 = (s : Int) := by omega
  have HN : Hid (n = q * 64 + s) := hnq
  have hq : q ≤ 17179869184 := by omega
  obtain ⟨i0, hi, hz0, hz1, hz2⟩ := info_parts Tryz.infoU
  clear hnq
  by_cases hql : (tr zs).length ≤ q
  · have HV : Hid (val zs / 2 ^ n = 0) := by
      refine hide ?_
      rw [Nat.div_eq_of_lt]
      have := val_lt M1
      rw [val_tr, W_pow] at this
      have h2 : (2 : Nat) ^ ((tr zs).length * 64) ≤ 2 ^ n := Nat.pow_le_pow_right (by omega) (by have := HN.out; omega)
      omega
    clear L1 M1 hl1 h1 hi hz0 hz1 hz2
    generalize tr zs = Z at *
    go_enter Tryz.func41, Tryz.ntmps41
    go_wp2_with fail
    refine H0.mono ?_
    rintro e w' ⟨rfl, rfl⟩
    go_wp2_with fail
    refine H1.mono ?_
    rintro e w' ⟨rfl, rfl⟩
    clear H0 H1
    go_wp2
    go_ret2
    rw [HV.out]
    exact ⟨Below.refl _ _, _, _, [], rfl, Ans.nil _ _, .inl ⟨rfl, rfl, rfl, by simp [blen]⟩⟩
  · rcases L1 with h' | ⟨b, off, rfl, hcell⟩
    · simp [h'] at hql
    · have hbw : b < w.heap.size := Lies.block (zs := tr zs) (.inr ⟨b, off, rfl, hcell⟩) (by omega)
      have hcl : (tr zs).length ≤ c1 := by omega
      have hlx : ((tr zs).drop q).length = (tr zs).length - q := by simp
      have HVX : Hid (val ((tr zs).drop q) / 2 ^ s = val zs / 2 ^ n) := by
        refine hide ?_
        rw [val_drop M1 q (by omega), val_tr, Nat.div_div_eq_div_mul, ← Nat.pow_add, ← HN.out]
      have hcx : ∀ k, k < ((tr zs).drop q).length → w.cell? ⟨b, off + q + k, none⟩ = some (.int .u64 ((((tr zs).drop q).getD k 0 : Nat) : Int)) := by
        intro k hk
        have := hcell (q + k) (by omega)
        rw [← Nat.add_assoc] at this
        rw [this]
        simp [List.getD]
      have hlimx : Limbs ((tr zs).drop q) := fun z hz => M1 z (List.mem_of_mem_drop hz)
      clear hcell hl1 h1 M1
      generalize (tr zs).drop q = X at *
      generalize (tr zs).length = m at *
      obtain ⟨d, rfl⟩ : ∃ d, m = q + d := ⟨m - q, by omega⟩
      have hdx : X.length = d := by omega
      subst hdx
      clear hlx
      have hd : decide ((q : Int) + (X.length : Int) ≤ (q : Int)) = false := by simp; omega
      have hxp : 0 < X.length := by omega
      go_enter Tryz.func41, Tryz.ntmps41
      go_wp2_with fail
      refine H0.mono ?_
      rintro e w' ⟨rfl, rfl⟩
      go_wp2_with fail
      refine H1.mono ?_
      rintro e w' ⟨rfl, rfl⟩
      clear H0 H1
      go_wp2_with (at_make; refine wpList_make_full _ rfl _ _ 24 rfl w'.heap.size 32 i0 (.int .u64 0) 1 Tryz.underlying24 hi hz0 hz1 .i64 .i64 _ _ X.length rfl rfl (by omega) (by omega) (by rw [hz2]; omega) (by unfold maxLen; omega) (Nat.le_refl _) ?_; intro w1 hown hgrow)
      have hb1 := Blk.made hown
      have hbel : Below w'.heap.size w' w1 := (Below.refl _ _).grown hgrow (Nat.le_refl _) (fun k hk => by cases hk)
      clear hown hgrow hi hz0 hz1 hz2
      go_loopw [31] (fun i wr => ∃ (k : Nat) (out : List Nat), k ≤ X.length ∧ i = .int .i64 k ∧ out.length = X.length ∧ Limbs out ∧ Blk wr w'.heap.size out ∧ Below w'.heap.size w' wr ∧
          2 ^ s * val (out.take k) + X.getD 0 0 % 2 ^ s = val (X.take k) + X.getD k 0 % 2 ^ s * 18446744073709551616 ^ k) (fun i _ => X.length - (intOf i).toNat)
      case atStart => exact ⟨0, _, Nat.zero_le _, rfl, by simp, limbs_replicate _, hb1, hbel, by simp [val]⟩
      case round =>
        obtain ⟨k, out, hk, rfl, hlen, hlo, hblk, hbl, hval⟩ := hrel
        clear hb1 hbel
        have HV := hide hval
        have HB := hide hblk
        have HL := hide hbl
        clear hval
        by_cases hkl : k < X.length
        · have hck : wr.cell? ⟨b, off + q + k, none⟩ = some (.int .u64 ((X.getD k 0 : Nat) : Int)) := by rw [hbl.cell (p := ⟨b, off + q + k, none⟩) hbw]; exact hcx k hkl
          have hlies : Lies wr.drew (some ⟨b, off + q, none⟩) X := .inr ⟨b, off + q, rfl, fun j hj => by rw [hbl.drew.cell (p := ⟨b, off + q + j, none⟩) hbw]; exact hcx j hj⟩
          have H42 := limb_any (some ⟨b, off + q, none⟩) (c1 - q) X (k + 1) wr.drew (by omega) (by omega) hlies
          rw [show ((k + 1 : Nat) : Int) = (k : Int) + 1 from by omega] at H42
          have hfr := hblk.free k
          have hco := hblk.cell k (by omega)
          have hst := right_step X out s k hs (by omega) HV.out
          have z1 := limb_lt hlimx k
          have hne1 : ¬ b = w'.heap.size := by omega
          have hne2 : ¬ w'.heap.size = b := by omega
          generalize out.getD k 0 = o at *
          have HS := hide hst
          clear hst hlies hblk hbl HV hcx
          generalize hy : X.getD (k + 1) 0 = y at *
          have HY := hide hy
          clear hy
          generalize X.getD k 0 = x at *
          have hi1 : (0 : Int) ≤ (k : Int) := by omega
          have hi2 : (k : Int) < (X.length : Int) := by omega
          have hwk : IntKind.i64.wrap ((k : Int) + 1) = (k : Int) + 1 := by rw [IntKind.wrap_i64]; omega
          obtain ⟨t, ht⟩ : ∃ t, t = 64 - s := ⟨_, rfl⟩
          have htb : t ≤ 64 := by omega
          have hw64 : IntKind.i64.wrap (64 - (s : Int)) = (t : Int) := by rw [IntKind.wrap_i64]; omega
          have hw66 : IntKind.i64.wrap (t : Int) = (t : Int) := by rw [IntKind.wrap_i64]; omega
          have hw65 : (64 - (s : Int)) = (t : Int) := by omega
          have HT := hide ht
          clear ht
          go_wp2
          go_region_held3 (fun w2 => w2.cell? ⟨b, off + q + k, none⟩ = some (.int .u64 x)) (go_keep) (first | (go_at_call 39; refine H42.mono ?_; rintro e w2 ⟨rfl, rfl⟩))
          go_wp2
          go_roundw
          case rel =>
            have e := HT.out
            subst e
            rw [walk_shr2 x y s hs z1]
            exact ⟨k + 1, out.set k (shr x y s), by omega, by go_num, by simp; omega, limbs_set hlo _ _ (shr_lt2 x y s hs z1), HB.out.set _ _, (HL.out.setCell (Nat.le_refl _) _).drew, by rw [HY.out]; exact HS.out⟩
          case measure => simp [intOf]; omega
        · have ek : k = X.length := by omega
          subst ek
          have HA := answer_blk _ w'.heap.size _ _ hblk hlo (Nat.le_refl _) (by omega)
          rw [right_end X out s hlen HV.out, HVX.out, hlen] at HA
          clear hblk hbl HV HB hlo hcx hlimx
          go_wp2_with fail
          refine HA.mono ?_
          rintro e w2 ⟨rfl, hres⟩
          unfold Res at hres
          obtain ⟨v, c, rs, rfl, hres⟩ := hres
          have HX := hide hres
          clear hres
          go_wp2
          go_ret2
          exact ⟨HL.out, v, c, rs, rfl, HX.out⟩

end Go.Proofs.YtppblbhkghjphaaGreatDoor

/- Package nat: From, Times. -/
namespace Go.Proofs.YtppblbhkghjphaaGreatDoor
open Go.RowKit
open Lm

/-- A number of one limb, or nought. -/
theorem from_any (x : Nat) (w : World) (hx : x < 18446744073709551616) :
    Calls Tryz.prog 21 #[.int .u64 x] w fun e w' => (∃ v, e = .returned v ∧ Ans w' w.heap.size v (tr [x])) ∧ Below w.heap.size w w' := by
  by_cases h : x = 0
  · subst h
    have hz : (((0 : Nat) : Int) == 0) = true := rfl
    go_enter Tryz.func21, Tryz.ntmps21
    go_wp2
    go_ret
    exact ⟨⟨_, rfl, Ans.nil _ _⟩, Below.refl _ _⟩
  · have hz : ((x : Int) == 0) = false := by rw [beq_eq_false_iff_ne]; omega
    have e : tr [x] = [x] := by simp [tr, h]
    rw [e]
    clear e h
    have hb : Blk (w.alloc (.cells #[.int .u64 (x : Int)] 32)) w.heap.size [x] := by
      unfold Blk; rw [heap_alloc_new]; rfl
    have HA := hide (Ans.of_blk (base := w.heap.size) (zs := [x]) (Nat.le_refl _) hb rfl (Nat.le_refl _) (by simp) (by intro y hy; simp at hy; omega))
    clear hb
    go_enter Tryz.func21, Tryz.ntmps21
    go_wp2
    go_ret
    exact ⟨⟨_, rfl, HA.out⟩, (Below.refl _ _).alloc (Nat.le_refl _) _⟩

end Go.Proofs.YtppblbhkghjphaaGreatDoor

/- math\bits: Div64. -/
namespace Go.Proofs.YtppblbhkghjphaaGreatDoor
open Go.RowKit
open Lm

theorem div64_zero (lo y : Nat) (w : World) (hy : y < 18446744073709551616) (h0 : 0 < y) (hlo : lo < 18446744073709551616) :
    Calls Tryz.prog 120 #[.int .u64 0, .int .u64 lo, .int .u64 y] w fun e w' => e = .returned (.tuple #[.int .u64 ((lo / y : Nat) : Int), .int .u64 ((lo % y : Nat) : Int)]) ∧ Same w w' := by
  have hz : ((y : Int) == 0) = false := by rw [beq_eq_false_iff_ne]; omega
  have hz2 : decide ((y : Int) ≤ 0) = false := by simp; omega
  have e1 : (lo : Int) / (y : Int) = ((lo / y : Nat) : Int) := (Int.natCast_ediv _ _).symm
  have e2 : (lo : Int) % (y : Int) = ((lo % y : Nat) : Int) := (Int.natCast_emod _ _).symm
  have e3 : (lo : Int).tdiv (y : Int) = ((lo / y : Nat) : Int) := rfl
  have e4 : (lo : Int).tmod (y : Int) = ((lo % y : Nat) : Int) := rfl
  have b1 : lo / y < 18446744073709551616 := Nat.lt_of_le_of_lt (Nat.div_le_self _ _) hlo
  have b2 : lo % y < 18446744073709551616 := Nat.lt_of_le_of_lt (Nat.mod_le _ _) hlo
  generalize lo / y = a at *
  generalize lo % y = b at *
  have h1 : (1 : Int) ≤ (y : Int) := by omega
  go_enter Tryz.func120, Tryz.ntmps120
  go_wp2
  go_quiet (fail)
  go_wp2
  go_ret2
  exact ⟨rfl, (Same.refl _).drewN _⟩

theorem wrap_mul (x s r : Nat) (h : x * 2 ^ s % 18446744073709551616 = r) : IntKind.u64.wrap ((x : Int) * 2 ^ s) = (r : Int) := by
  rw [IntKind.wrap_u64]
  have : ((x : Int) * 2 ^ s) = ((x * 2 ^ s : Nat) : Int) := by rw [Int.natCast_mul, Int.natCast_pow]; rfl
  rw [this]; omega

theorem mask32 (a : Nat) (ha : a < 18446744073709551616) : bits BinOp.and IntKind.u64 (a : Int) 4294967295 = ((a % 4294967296 : Nat) : Int) := by
  have h := bits_and_u64_nat a 4294967295 ha (by omega)
  rw [show a &&& 4294967295 = a % 4294967296 from Nat.and_two_pow_sub_one_eq_mod a 32] at h
  exact h

theorem or_add (h s l U : Nat) (hs : s ≤ 64) (hl : l < 2 ^ s) (hh : h * 2 ^ s < 18446744073709551616) (hU : U = h * 2 ^ s + l) : bits BinOp.or IntKind.u64 ((h * 2 ^ s : Nat) : Int) (l : Int) = (U : Int) := by
  have hll : l < 18446744073709551616 := Nat.lt_of_lt_of_le hl (by rw [show (18446744073709551616 : Nat) = 2 ^ 64 from rfl]; exact Nat.pow_le_pow_right (by omega) hs)
  rw [bits_or_u64_nat _ _ hh hll, hU, Nat.mul_comm h, Nat.two_pow_add_eq_or_of_lt hl]

theorem rest_letters (a b y q r : Nat) (hd : q * y + r = a * 4294967296 + b) (hr : r < 18446744073709551616) :
    ∃ a1 a2 a3 : Nat, a1 < 18446744073709551616 ∧ a2 < 18446744073709551616 ∧ a3 < 18446744073709551616 ∧ IntKind.u64.wrap ((a : Int) * 4294967296) = (a1 : Int) ∧ IntKind.u64.wrap ((a1 : Int) + (b : Int)) = (a2 : Int) ∧
      IntKind.u64.wrap ((q : Int) * (y : Int)) = (a3 : Int) ∧ IntKind.u64.wrap ((a2 : Int) - (a3 : Int)) = (r : Int) := by
  refine ⟨a * 4294967296 % 18446744073709551616, (a * 4294967296 % 18446744073709551616 + b) % 18446744073709551616, q * y % 18446744073709551616, Nat.mod_lt _ (by omega), Nat.mod_lt _ (by omega), Nat.mod_lt _ (by omega), ?_, ?_, ?_, ?_⟩
  · rw [IntKind.wrap_u64]; omega
  · rw [IntKind.wrap_u64]; omega
  · rw [IntKind.wrap_u64, ← Int.natCast_mul]; omega
  · rw [IntKind.wrap_u64]
    omega

set_option maxRecDepth 100000 in
set_option maxHeartbeats 1000000 in
theorem div64_big (hi lo y : Nat) (w : World) (hy : y < 18446744073709551616) (hhi0 : 0 < hi) (hhi : hi < y) (hlo : lo < 18446744073709551616) :
    Calls Tryz.prog 120 #[.int .u64 hi, .int .u64 lo, .int .u64 y] w fun e w' => e = .returned (.tuple #[.int .u64 (((hi * 18446744073709551616 + lo) / y : Nat) : Int), .int .u64 (((hi * 18446744073709551616 + lo) % y : Nat) : Int)]) ∧ Same w w' := by
  have hz : ((y : Int) == 0) = false := by rw [beq_eq_false_iff_ne]; omega
  have hz1 : ((hi : Int) == 0) = false := by rw [beq_eq_false_iff_ne]; omega
  have hz2 : decide ((y : Int) ≤ (hi : Int)) = false := by simp; omega
  have HLZ := Tryz.bits_LeadingZeros64 (y : Int) w (by omega) (by omega)
  rw [Int.toNat_natCast] at HLZ
  obtain ⟨n1, n2, n3, n4⟩ := norm_y y (by omega) hy
  obtain ⟨s, hs⟩ : ∃ s, s = 64 - Lib.bitLen y := ⟨_, rfl⟩
  have hsI : (64 : Int) - (Lib.bitLen y : Int) = (s : Int) := by omega
  rw [hsI] at HLZ
  rw [← hs] at n3 n4
  have hs63 : s ≤ 63 := by omega
  clear hs hsI n1 n2
  have hp := Nat.two_pow_pos s
  have hhy : (hi + 1) * 2 ^ s ≤ y * 2 ^ s := Nat.mul_le_mul_right _ hhi
  rw [Nat.add_mul, Nat.one_mul] at hhy
  have hl1 := shr_lt lo s (by omega) hlo
  have HVV := hide (shift_whole hi lo s (by omega))
  have r1 := wrap_mul y s (y * 2 ^ s) (Nat.mod_eq_of_lt n4)
  have r4 := wrap_mul hi s (hi * 2 ^ s) (Nat.mod_eq_of_lt (by omega))
  have r7 := or_add hi s (lo / 2 ^ (64 - s)) (hi * 2 ^ s + lo / 2 ^ (64 - s)) (by omega) hl1 (by omega) rfl
  have r8 := wrap_mul lo s (lo * 2 ^ s % 18446744073709551616) rfl
  have r6 := walk_shr lo (64 - s)
  have HK := hide (fun N u0 q1 q0 => knuth_whole (hi * 18446744073709551616 + lo) y s N u0 q1 q0 (by omega))
  have hUY : hi * 2 ^ s + lo / 2 ^ (64 - s) < y * 2 ^ s := by omega
  have hu10 : lo * 2 ^ s % 18446744073709551616 < 18446744073709551616 := Nat.mod_lt _ (by omega)
  have r5 : (64 : Int) - (s : Int) = ((64 - s : Nat) : Int) := by omega
  have ht : 64 - s ≤ 64 := by omega
  have ht0 : 1 ≤ 64 - s := by omega
  generalize lo * 2 ^ s % 18446744073709551616 = u10 at *
  generalize hU : hi * 2 ^ s + lo / 2 ^ (64 - s) = U at *
  generalize lo / 2 ^ (64 - s) = l1 at *
  generalize 64 - s = t at *
  have hh1 : hi * 2 ^ s < 18446744073709551616 := by omega
  generalize hi * 2 ^ s = h1 at *
  have r3 := mask32 (y * 2 ^ s) n4
  have r10 := mask32 u10 hu10
  generalize y * 2 ^ s = Y at *
  have r2 : (Y : Int) / 4294967296 = ((Y / 4294967296 : Nat) : Int) := by omega
  have r9 : (u10 : Int) / 4294967296 = ((u10 / 4294967296 : Nat) : Int) := by omega
  have hY : Y = Y / 4294967296 * 4294967296 + Y % 4294967296 := by omega
  have k1 : 2147483648 ≤ Y / 4294967296 := by omega
  have k2 : Y / 4294967296 < 4294967296 := by omega
  have k3 : Y % 4294967296 < 4294967296 := by omega
  have k4 : u10 / 4294967296 < 4294967296 := by omega
  have k5 : u10 % 4294967296 < 4294967296 := by omega
  generalize Y / 4294967296 = y1 at *
  generalize Y % 4294967296 = y0 at *
  generalize u10 / 4294967296 = u1 at *
  generalize u10 % 4294967296 = u0 at *
  have HY := hide hY
  have hl1W : l1 < 18446744073709551616 := by omega
  have HU : Hid (h1 + l1 = U) := hide hU
  clear hU hY hl1 hp hhy
  have KS := hide (knuth_start HY.out k1 k2 k3 k4 hUY)
  have r11 : (U : Int) / (y1 : Int) = ((U / y1 : Nat) : Int) := (Int.natCast_ediv _ _).symm
  have r12 : ((U / y1 : Nat) : Int) * (y1 : Int) = ((U / y1 * y1 : Nat) : Int) := (Int.natCast_mul _ _).symm
  have d1 : U / y1 * y1 + U % y1 = U := KS.out.sum
  have hUW : U < 18446744073709551616 := by omega
  have b1 : U / y1 < 18446744073709551616 := Nat.lt_of_le_of_lt (Nat.div_le_self _ _) hUW
  generalize U / y1 * y1 = p1 at *
  generalize U / y1 = q at *
  generalize U % y1 = r at *
  have r13 : (U : Int) - (p1 : Int) = (r : Int) := by omega
  have hp1 : p1 ≤ U := by omega
  have hy1p : (1 : Int) ≤ (y1 : Int) := by omega
  have D1 := hide d1
  clear d1
  go_enter Tryz.func120, Tryz.ntmps120
  go_wp2_with fail
  refine HLZ.mono ?_
  rintro e w1 ⟨rfl, rfl⟩
  clear HLZ
  go_upto_block 0 with fail
  clear r1 r2 r3 r4 r5 r6 r7 r8 r9 r10 r11 r12 r13 hz hz1 hz2
  go_cut [15, 16] from 67 to 85 (fun a _ wc => a = .int .u64 (((U * 4294967296 + u1) / Y : Nat) : Int) ∧ wc = w1)
  case first =>
    go_wp2_with fail
    go_loop [15, 16] (fun a b => ∃ q r : Nat, a = .int .u64 q ∧ b = .int .u64 r ∧ Knuth U Y y1 u1 q r) (fun a _ => (intOf a).toNat)
    case atStart => exact ⟨_, _, rfl, rfl, KS.out⟩
    case round =>
      obtain ⟨q, r, rfl, rfl, K⟩ := hrel
      have hq := K.few
      have hr := K.small
      obtain ⟨r', hr'⟩ : ∃ r', r' = r + y1 := ⟨_, rfl⟩
      have hrI : (r : Int) + (y1 : Int) = (r' : Int) := by omega
      obtain ⟨m0, hm0⟩ : ∃ m0, m0 = 4294967296 * r := ⟨_, rfl⟩
      have hmI0 : (4294967296 : Int) * (r : Int) = (m0 : Int) := by omega
      obtain ⟨m, hm⟩ : ∃ m, m = m0 + u1 := ⟨_, rfl⟩
      have hmI : (m0 : Int) + (u1 : Int) = (m : Int) := by omega
      have hmW : m < 18446744073709551616 := by omega
      have hmW0 : m0 < 18446744073709551616 := by omega
      have hrW : r' < 18446744073709551616 := by omega
      have HM := hide (show m = r * 4294967296 + u1 by omega)
      have HR := hide hr'
      have hrb : 4294967296 ≤ r' ∨ r' < 4294967296 := by omega
      clear hr' hm0 hm
      by_cases c1 : 4294967296 ≤ q
      · obtain ⟨g1, g2, g3⟩ := knuth_down HY.out k4 hUY K (.inl c1)
        rw [← HR.out] at g3
        have G2 := hide g2
        have G3 := hide g3
        have i1 : (4294967296 : Int) ≤ (q : Int) := by omega
        have i2 : (q : Int) ≤ 4294967297 := by omega
        rcases hrb with c2 | c2
        · have HQ := hide (knuth_break HY.out (by omega) k3 G3.out G2.out (by omega) c2)
          have i4 : (4294967296 : Int) ≤ (r' : Int) := by omega
          clear g1 g2 g3 K c1 c2 hq hr
          go_wp2
          go_meet
          case rel => exact ⟨by rw [← HQ.out]; go_num, rfl⟩
        · have i4 : (r' : Int) < 4294967296 := by omega
          have hb2 : decide ((4294967296 : Int) ≤ (r' : Int)) = false := decide_eq_false (by omega)
          clear g1 g2 g3 K c1 c2 hq hr
          go_wp2
          go_round
          case rel => exact ⟨q - 1, r', by go_num, rfl, G3.out, G2.out, by omega, by omega⟩
          case measure => simp [intOf]; omega
      · obtain ⟨p, hp⟩ : ∃ p, p = q * y0 := ⟨_, rfl⟩
        have hpI : (q : Int) * (y0 : Int) = (p : Int) := by rw [hp]; exact (Int.natCast_mul _ _).symm
        have hpW : p < 18446744073709551616 := by
          rw [hp]
          have := Nat.mul_le_mul (show q ≤ 4294967295 by omega) (show y0 ≤ 4294967295 by omega)
          omega
        have HP := hide hp
        clear hp
        have i1 : (q : Int) < 4294967296 := by omega
        have hb1 : decide ((4294967296 : Int) ≤ (q : Int)) = false := decide_eq_false (by omega)
        by_cases c3 : m < p
        · obtain ⟨g1, g2, g3⟩ := knuth_down HY.out k4 hUY K (.inr (by rw [← HP.out, ← HM.out]; exact c3))
          rw [← HR.out] at g3
          have G2 := hide g2
          have G3 := hide g3
          have i2 : (m : Int) < (p : Int) := by omega
          have i5 : (1 : Int) ≤ (q : Int) := by omega
          rcases hrb with c2 | c2
          · have HQ := hide (knuth_break HY.out (by omega) k3 G3.out G2.out (by omega) c2)
            have i4 : (4294967296 : Int) ≤ (r' : Int) := by omega
            clear g1 g2 g3 K c1 c2 c3 hq hr
            go_wp2
            go_meet
            case rel => exact ⟨by rw [← HQ.out]; go_num, rfl⟩
          · have i4 : (r' : Int) < 4294967296 := by omega
            have hb2 : decide ((4294967296 : Int) ≤ (r' : Int)) = false := decide_eq_false (by omega)
            clear g1 g2 g3 K c1 c2 c3 hq hr
            go_wp2
            go_round
            case rel => exact ⟨q - 1, r', by go_num, rfl, G3.out, G2.out, by omega, by omega⟩
            case measure => simp [intOf]; omega
        · have HQ := hide (knuth_stop HY.out K (by omega) (by rw [← HP.out, ← HM.out]; omega))
          have i2 : (p : Int) ≤ (m : Int) := by omega
          have hb3 : decide ((m : Int) < (p : Int)) = false := decide_eq_false (by omega)
          have hb4 : decide (m < p) = false := decide_eq_false c3
          clear K c1 c3 hq hr hrb
          go_wp2
          go_meet
          case rel => exact ⟨by rw [← HQ.out], rfl⟩
  case rest =>
    obtain ⟨rfl, hwc⟩ := hcut
    have hwc' := hwc.symm
    subst hwc'
    clear hwc
    have hRY : (U * 4294967296 + u1) % Y < Y := Nat.mod_lt _ (by omega)
    have hQ1b := knuth_lt k4 hUY
    have hd1 := Nat.div_add_mod (U * 4294967296 + u1) Y
    rw [Nat.mul_comm] at hd1
    obtain ⟨R1, hR1⟩ : ∃ R1, R1 = (U * 4294967296 + u1) % Y := ⟨_, rfl⟩
    obtain ⟨Q1, hQ1⟩ : ∃ Q1, Q1 = (U * 4294967296 + u1) / Y := ⟨_, rfl⟩
    rw [← hR1] at hRY hd1
    rw [← hQ1] at hd1 hQ1b ⊢
    obtain ⟨a1, a2, a3, t1, t2, t3, s1, s2, s3, s4⟩ := rest_letters U u1 Y Q1 R1 hd1 (by omega)
    have HR1 := hide hR1
    have HQ1 := hide hQ1
    clear hR1 hQ1 hd1 KS D1
    have KS := hide (knuth_start HY.out k1 k2 k3 k5 hRY)
    have r11 : (R1 : Int) / (y1 : Int) = ((R1 / y1 : Nat) : Int) := (Int.natCast_ediv _ _).symm
    have r12 : ((R1 / y1 : Nat) : Int) * (y1 : Int) = ((R1 / y1 * y1 : Nat) : Int) := (Int.natCast_mul _ _).symm
    have d1 : R1 / y1 * y1 + R1 % y1 = R1 := KS.out.sum
    have hRW : R1 < 18446744073709551616 := by omega
    have b1' : R1 / y1 < 18446744073709551616 := Nat.lt_of_le_of_lt (Nat.div_le_self _ _) hRW
    clear b1 hp1
    generalize R1 / y1 * y1 = p1' at *
    generalize R1 / y1 = q' at *
    generalize R1 % y1 = r' at *
    have r13 : (R1 : Int) - (p1' : Int) = (r' : Int) := by omega
    have hp1' : p1' ≤ R1 := by omega
    clear d1
    go_upto_block 2 with fail
    clear r11 r12 r13 s1 s2 s3 s4 t1 t2 t3
    go_cut [18, 16] from 102 to 120 (fun a _ wc => a = .int .u64 (((R1 * 4294967296 + u0) / Y : Nat) : Int) ∧ wc = w1)
    case first =>
      go_wp2_with fail
      go_loop [18, 16] (fun a b => ∃ q r : Nat, a = .int .u64 q ∧ b = .int .u64 r ∧ Knuth R1 Y y1 u0 q r) (fun a _ => (intOf a).toNat)
      case atStart => exact ⟨_, _, rfl, rfl, KS.out⟩
      case round =>
        obtain ⟨q, r, rfl, rfl, K⟩ := hrel
        have hq := K.few
        have hr := K.small
        obtain ⟨r', hr'⟩ : ∃ r', r' = r + y1 := ⟨_, rfl⟩
        have hrI : (r : Int) + (y1 : Int) = (r' : Int) := by omega
        obtain ⟨m0, hm0⟩ : ∃ m0, m0 = 4294967296 * r := ⟨_, rfl⟩
        have hmI0 : (4294967296 : Int) * (r : Int) = (m0 : Int) := by omega
        obtain ⟨m, hm⟩ : ∃ m, m = m0 + u0 := ⟨_, rfl⟩
        have hmI : (m0 : Int) + (u0 : Int) = (m : Int) := by omega
        have hmW : m < 18446744073709551616 := by omega
        have hmW0 : m0 < 18446744073709551616 := by omega
        have hrW : r' < 18446744073709551616 := by omega
        have HM := hide (show m = r * 4294967296 + u0 by omega)
        have HR := hide hr'
        have hrb : 4294967296 ≤ r' ∨ r' < 4294967296 := by omega
        clear hr' hm0 hm
        by_cases c1 : 4294967296 ≤ q
        · obtain ⟨g1, g2, g3⟩ := knuth_down HY.out k5 hRY K (.inl c1)
          rw [← HR.out] at g3
          have G2 := hide g2
          have G3 := hide g3
          have i1 : (4294967296 : Int) ≤ (q : Int) := by omega
          have i2 : (q : Int) ≤ 4294967297 := by omega
          rcases hrb with c2 | c2
          · have HQ := hide (knuth_break HY.out (by omega) k3 G3.out G2.out (by omega) c2)
            have i4 : (4294967296 : Int) ≤ (r' : Int) := by omega
            clear g1 g2 g3 K c1 c2 hq hr
            go_wp2
            go_meet
            case rel => exact ⟨by rw [← HQ.out]; go_num, rfl⟩
          · have i4 : (r' : Int) < 4294967296 := by omega
            have hb2 : decide ((4294967296 : Int) ≤ (r' : Int)) = false := decide_eq_false (by omega)
            clear g1 g2 g3 K c1 c2 hq hr
            go_wp2
            go_round
            case rel => exact ⟨q - 1, r', by go_num, rfl, G3.out, G2.out, by omega, by omega⟩
            case measure => simp [intOf]; omega
        · obtain ⟨p, hp⟩ : ∃ p, p = q * y0 := ⟨_, rfl⟩
          have hpI : (q : Int) * (y0 : Int) = (p : Int) := by rw [hp]; exact (Int.natCast_mul _ _).symm
          have hpW : p < 18446744073709551616 := by
            rw [hp]
            have := Nat.mul_le_mul (show q ≤ 4294967295 by omega) (show y0 ≤ 4294967295 by omega)
            omega
          have HP := hide hp
          clear hp
          have i1 : (q : Int) < 4294967296 := by omega
          have hb1 : decide ((4294967296 : Int) ≤ (q : Int)) = false := decide_eq_false (by omega)
          by_cases c3 : m < p
          · obtain ⟨g1, g2, g3⟩ := knuth_down HY.out k5 hRY K (.inr (by rw [← HP.out, ← HM.out]; exact c3))
            rw [← HR.out] at g3
            have G2 := hide g2
            have G3 := hide g3
            have i2 : (m : Int) < (p : Int) := by omega
            have i5 : (1 : Int) ≤ (q : Int) := by omega
            rcases hrb with c2 | c2
            · have HQ := hide (knuth_break HY.out (by omega) k3 G3.out G2.out (by omega) c2)
              have i4 : (4294967296 : Int) ≤ (r' : Int) := by omega
              clear g1 g2 g3 K c1 c2 c3 hq hr
              go_wp2
              go_meet
              case rel => exact ⟨by rw [← HQ.out]; go_num, rfl⟩
            · have i4 : (r' : Int) < 4294967296 := by omega
              have hb2 : decide ((4294967296 : Int) ≤ (r' : Int)) = false := decide_eq_false (by omega)
              clear g1 g2 g3 K c1 c2 c3 hq hr
              go_wp2
              go_round
              case rel => exact ⟨q - 1, r', by go_num, rfl, G3.out, G2.out, by omega, by omega⟩
              case measure => simp [intOf]; omega
          · have HQ := hide (knuth_stop HY.out K (by omega) (by rw [← HP.out, ← HM.out]; omega))
            have i2 : (p : Int) ≤ (m : Int) := by omega
            have hb3 : decide ((m : Int) < (p : Int)) = false := decide_eq_false (by omega)
            have hb4 : decide (m < p) = false := decide_eq_false c3
            clear K c1 c3 hq hr hrb
            go_wp2
            go_meet
            case rel => exact ⟨by rw [← HQ.out], rfl⟩
    case rest =>
      obtain ⟨rfl, rfl⟩ := hcut
      have hRY0 : (R1 * 4294967296 + u0) % Y < Y := Nat.mod_lt _ (by omega)
      have hQ0b := knuth_lt k5 hRY
      have hd1 := Nat.div_add_mod (R1 * 4294967296 + u0) Y
      rw [Nat.mul_comm] at hd1
      obtain ⟨R0, hR0⟩ : ∃ R0, R0 = (R1 * 4294967296 + u0) % Y := ⟨_, rfl⟩
      obtain ⟨Q0, hQ0⟩ : ∃ Q0, Q0 = (R1 * 4294967296 + u0) / Y := ⟨_, rfl⟩
      rw [← hR0] at hRY0 hd1
      rw [← hQ0] at hd1 hQ0b ⊢
      obtain ⟨a1, a2, a3, t1, t2, t3, s1, s2, s3, s4⟩ := rest_letters R1 u0 Y Q0 R0 hd1 (by omega)
      have hfin := HK.out (U * 4294967296 + u1) u0 Q1 Q0 HVV.out HQ1.out (by rw [← HR1.out]; exact hQ0)
      rw [← HR1.out, ← hR0] at hfin
      have f1 : (Q1 : Int) * 4294967296 + (Q0 : Int) = (((hi * 18446744073709551616 + lo) / y : Nat) : Int) := by rw [← hfin.1]; omega
      have f2 : (R0 : Int) / 2 ^ s = (((hi * 18446744073709551616 + lo) % y : Nat) : Int) := by rw [← hfin.2]; exact walk_shr R0 s
      have F1 := hide f1
      have F2 := hide f2
      have hQQ : ((Q1 : Int) * 4294967296 + (Q0 : Int)) < 18446744073709551616 := by omega
      clear hR0 hQ0 hd1 KS hfin HK HVV f1 f2
      go_wp2
      go_ret2
      rw [← F1.out, ← F2.out]
      exact ⟨rfl, Same.refl _⟩

end Go.Proofs.YtppblbhkghjphaaGreatDoor

/- Package nat: Through. -/
namespace Go.Proofs.YtppblbhkghjphaaGreatDoor
open Go.RowKit
open Lm

theorem div64_any (hi lo y : Nat) (w : World) (hy : y < 18446744073709551616) (hhi : hi < y) (hlo : lo < 18446744073709551616) :
    Calls Tryz.prog 120 #[.int .u64 hi, .int .u64 lo, .int .u64 y] w fun e w' => e = .returned (.tuple #[.int .u64 (((hi * 18446744073709551616 + lo) / y : Nat) : Int), .int .u64 (((hi * 18446744073709551616 + lo) % y : Nat) : Int)]) ∧ Same w w' := by
  by_cases h : hi = 0
  · subst h
    have := div64_zero lo y w hy hhi hlo
    rw [Nat.zero_mul, Nat.zero_add]
    exact this
  · exact div64_big hi lo y w hy (by omega) hhi hlo

/-- What Through answers. -/
def ResT (w : World) (base : Nat) (e : Ending) (s t : Nat) : Prop :=
  ∃ v c rs r, e = .returned (.tuple #[v, .int .u64 ((r : Nat) : Int), .int .i64 c]) ∧ Ans w base v rs ∧ ((c = 0 ∧ val rs = s ∧ tr rs = rs ∧ r = t ∧ blen s ≤ 67108864) ∨ (c = 3 ∧ rs = [] ∧ r = 0 ∧ 67108864 < blen s))

end Go.Proofs.YtppblbhkghjphaaGreatDoor
