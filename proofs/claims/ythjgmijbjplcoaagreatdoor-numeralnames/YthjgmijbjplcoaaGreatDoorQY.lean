/- Package numeral: what the laws' example asks. -/
import Derived.Test.YthjgmijbjplcoaaGreatDoorQJ
import Derived.Test.YthjgmijbjplcoaaGreatDoorQB
import Derived.Test.YthjgmijbjplcoaaGreatDoorQH
import Derived.LoopN
import Derived.Handy
import Derived.Laws.IdiomStrings
import Derived.Test.YthjgmijbjplcoaaGreatDoorQG
namespace Go.Proofs.YthjgmijbjplcoaaGreatDoor
open Go.RowKit
open Lm
attribute [local go_sem ↓] Go.wp_at_zero Go.wp_at_succ

theorem isBase16 (w : World) : Calls Tryz.prog 31 #[.int .i64 16] w fun e w' => e = .returned (.bool true) ∧ w' = w := by
  go_enter Tryz.func31, Tryz.ntmps31
  go_wp2
  go_ret
  exact ⟨rfl, rfl⟩

theorem tz16 (w : World) (hT : Tab w) : Calls Tryz.prog 56 #[.int .u64 16] w fun e w' => e = .returned (.int .i64 4) ∧ w' = w := by
  have H := tz_any 16 4 w (by omega) ⟨by decide, by decide⟩ hT
  clear hT
  go_enter Tryz.func56, Tryz.ntmps56
  go_wp2_with fail
  refine H.mono ?_
  rintro e wn ⟨rfl, hw⟩; rw [hw]; clear hw wn H
  go_wp2
  go_ret
  exact ⟨rfl, rfl⟩

theorem countSmall16 (w : World) : Calls Tryz.prog 58 #[.int .u64 255, .int .u64 16] w fun e w' => e = .returned (.int .i64 2) ∧ w' = w := by
  go_enter Tryz.func58, Tryz.ntmps58
  go_wp2
  refine wp_loop_rounds 2 ?_
  rw [rounds_succ]
  go_wp2
  rw [rounds_succ]
  go_wp2
  go_ret
  exact ⟨rfl, rfl⟩

set_option maxRecDepth 20000 in
theorem unit16 (w : World) : Calls Tryz.prog 79 #[.int .i64 16] w fun e w' => e = .returned (.tuple #[.int .i64 15, .int .u64 1152921504606846976]) ∧ w' = w := by
  go_enter Tryz.func79, Tryz.ntmps79
  go_wp2
  refine wp_loop_rounds 16 ?_
  iterate 16
    rw [rounds_succ]
    go_wp2
  go_returns
  exact ⟨rfl, rfl⟩

theorem count255 (va : Value) (X : List Nat) (w : World) (hA : Arg w va X) (hT : Tab w) (hX : val X = 255) (hl : X.length = 1) :
    Calls Tryz.prog 34 #[va, .int .i64 16] w fun e w' => e = .returned (.int .i64 2) ∧ w' = w := by
  have L1 := length_val va X w hA
  rw [hX, show blen 255 = 8 from rfl] at L1
  have T1 := tz16 w hT
  have S1 := small_any va X w hA
  have ht : (tr X).length ≤ 1 := Nat.le_trans (tr_length_le X) (by omega)
  rw [if_pos ht, decide_eq_true ht] at S1
  have hg : (tr X).getD 0 0 = 255 := by
    have h2 := val_tr X
    rw [hX] at h2
    match h : tr X, ht, h2 with
    | [], _, h2 => simp [val] at h2
    | [a], _, h2 => simpa [val] using h2
    | a :: b :: c, h1, _ => simp at h1
  rw [hg] at S1
  have C1 := countSmall16 w
  clear hA hT hX hl ht hg
  go_enter Tryz.func34, Tryz.ntmps34
  go_wp2_with fail
  refine L1.mono ?_
  rintro e wn ⟨rfl, hw⟩; rw [hw]; clear hw wn L1
  go_wp2_with fail
  refine T1.mono ?_
  rintro e wn ⟨rfl, hw⟩; rw [hw]; clear hw wn T1
  go_wp2_with fail
  refine S1.mono ?_
  rintro e wn ⟨rfl, hw⟩; rw [hw]; clear hw wn S1
  go_wp2_with fail
  refine C1.mono ?_
  rintro e wn ⟨rfl, hw⟩; rw [hw]; clear hw wn C1
  go_wp2
  go_ret
  exact ⟨rfl, rfl⟩

end Go.Proofs.YthjgmijbjplcoaaGreatDoor

/- Package numeral: writeFew and text of the laws' example. -/
namespace Go.Proofs.YthjgmijbjplcoaaGreatDoor
open Go.RowKit
open Lm
attribute [local go_sem ↓] Go.wp_at_zero Go.wp_at_succ

theorem Ans.cellAt5 {w : World} {base g cap : Nat} {zs : List Nat} (h : Ans w base (.slice (some ⟨g, 0, none⟩) zs.length cap) zs) : (zs.length ≤ cap ∧ cap ≤ 9223372036854775807) ∧ (∀ k, w.frozen? ⟨g, k, none⟩ = false) ∧ ∀ k, k < zs.length → w.cell? ⟨g, k, none⟩ = some (.int .u64 ((zs.getD k 0 : Nat) : Int)) := by
  rcases h.form with ⟨e, _⟩ | ⟨g', cap', e, _, _, h1, h2, h3, h4⟩
  · cases e
  · cases e
    exact ⟨⟨h1, h2⟩, h3, h4⟩

theorem box_modify5 {w : World} {h k : Nat} {cs : Array Value} {t : TypeId} (e : w.heap[h]? = some (.cells cs t)) (u : Value) : (w.setCell ⟨h, k, none⟩ u).heap[h]? = some (.cells (cs.setIfInBounds k u) t) := by
  have hlt := lt_of_block e
  have h' : w.heap[h] = .cells cs t := by simpa [Array.getElem?_eq_getElem hlt] using e
  show (w.heap.modify h _)[h]? = _
  rw [Array.getElem?_eq_getElem (by simpa using hlt), Array.getElem_modify_self, h']
  rfl

theorem cell_set5 {w : World} {g k : Nat} {u v : Value} (h : w.cell? ⟨g, k, none⟩ = some v) : (w.setCell ⟨g, k, none⟩ u).cell? ⟨g, k, none⟩ = some u := by
  simp only [World.cell?] at h ⊢
  rcases hh : w.heap[g]? with _ | o
  · simp [hh] at h
  · cases o with
    | cells cs t fz =>
      have hlt := lt_of_block hh
      have h' : w.heap[g] = .cells cs t fz := by simpa [Array.getElem?_eq_getElem hlt] using hh
      have : (w.setCell ⟨g, k, none⟩ u).heap[g]? = some (.cells (cs.setIfInBounds k u) t fz) := by
        show (w.heap.modify g _)[g]? = _
        rw [Array.getElem?_eq_getElem (by simpa using hlt), Array.getElem_modify_self, h']
        rfl
      simp [this]
      simp [hh] at h
      have hk : k < cs.size := by
        rcases Nat.lt_or_ge k cs.size with h2 | h2
        · exact h2
        · simp [Array.getElem?_eq_none h2] at h
      simp [hk]
    | _ => simp [hh] at h

theorem div255 (w : World) : Calls Tryz.prog 108 #[.int .u64 0, .int .u64 255, .int .u64 1152921504606846976] w fun e w' => e = .returned (.tuple #[.int .u64 0, .int .u64 255]) ∧ Same w w' :=
  div64_zero 255 1152921504606846976 w (by omega) (by omega) (by omega)

theorem shrink255 (base g cap : Nat) (w : World) (hA : Ans w base (.slice (some ⟨g, 0, none⟩) 1 cap) [255]) :
    Calls Tryz.prog 81 #[.slice (some ⟨g, 0, none⟩) 1 cap, .int .u64 1152921504606846976] w fun e w' => e = .returned (.tuple #[.slice (some ⟨g, 0, none⟩) 0 cap, .int .u64 255]) ∧ Below base w w' := by
  have HA := hide hA
  obtain ⟨⟨hc1, hc2⟩, hf, hc⟩ := Ans.cellAt5 (zs := [255]) hA
  have hc0 := hc 0 (by simp)
  rw [show ((([255] : List Nat).getD 0 0 : Nat) : Int) = 255 from rfl] at hc0
  have hbg : base ≤ g := (hA.own.lt g rfl).1
  simp only [List.length_singleton] at hc1
  have HD := div255 w
  clear hA hc hf
  go_enter Tryz.func81, Tryz.ntmps81
  go_wp2
  refine wp_loop_rounds 2 ?_
  rw [rounds_succ]
  go_wp2_with fail
  refine HD.mono ?_
  rintro e w1 ⟨rfl, hsm⟩
  have A1 := HA.out.below (hsm.below w.heap.size)
  obtain ⟨_, hf1, hc1'⟩ := Ans.cellAt5 (zs := [255]) A1
  have hc0' := hc1' 0 (by simp)
  rw [show ((([255] : List Nat).getD 0 0 : Nat) : Int) = 255 from rfl] at hc0'
  have HB := hide ((hsm.below base).setCell (p := ⟨g, 0, none⟩) hbg (.int .u64 0))
  have hc2' := cell_set5 (u := .int .u64 0) hc0'
  clear HD A1 hsm hc1' hc0
  go_wp2
  rw [rounds_succ]
  go_wp2
  go_returns
  exact ⟨rfl, HB.out⟩

set_option maxRecDepth 20000 in
theorem writeFew16 (gd : Nat) (va : Value) (X : List Nat) (w : World) (hA : Arg w va X) (hX : tr X = [255]) (hl : X.length ≤ 1000) (hd : w.heap[gd]? = some (.cells #[.int .u8 0, .int .u8 0] 5)) :
    Calls Tryz.prog 54 #[.slice (some ⟨gd, 0, none⟩) 2 2, va, .int .i64 16] w fun e w' => e = .returned (.tuple #[]) ∧ w'.heap[gd]? = some (.cells #[.int .u8 15, .int .u8 15] 5) ∧ Below gd w w' := by
  have HU := unit16 w
  have HN := nnorm_any va X w hA (by omega)
  rw [hX] at HN
  have HD := hide hd
  have hlt := lt_of_block hd
  clear hA hX hd
  go_enter Tryz.func54, Tryz.ntmps54
  go_wp2_with fail
  refine HU.mono ?_
  rintro e wn ⟨rfl, hw⟩; rw [hw]; clear hw wn HU
  go_wp2_with fail
  refine HN.mono ?_
  rintro e w1 ⟨⟨v1, rfl, A1⟩, hb1⟩
  obtain ⟨g, cap, rfl⟩ : ∃ g cap, v1 = .slice (some ⟨g, 0, none⟩) 1 cap := by
    rcases A1.form with ⟨_, e⟩ | ⟨g, cap, e, _⟩
    · cases e
    · exact ⟨g, cap, e⟩
  have HS := shrink255 w.heap.size g cap w1 A1
  have HB1 := hide hb1
  clear HN A1 hb1
  go_wp2
  refine wp_loop_rounds 2 ?_
  rw [rounds_succ]
  go_wp2_with fail
  refine HS.mono ?_
  rintro e w2 ⟨rfl, hb2⟩
  have hb := HB1.out.trans hb2
  have hd2 : w2.heap[gd]? = some (.cells #[.int .u8 0, .int .u8 0] 5) := by rw [hb.block gd hlt]; exact HD.out
  have c0 : w2.cell? ⟨gd, 0, none⟩ = some (.int .u8 0) := by simp [World.cell?, hd2]
  have c1 : w2.cell? ⟨gd, 1, none⟩ = some (.int .u8 0) := by simp [World.cell?, hd2]
  have hf : ∀ k, w2.frozen? ⟨gd, k, none⟩ = false := fun k => by simp [World.frozen?, hd2]
  have HB2 := hide (hb.mono (Nat.le_of_lt hlt))
  have HD2 := hide hd2
  clear HS hb hb2 hd2
  go_wp2
  refine wp_loop_rounds 3 ?_
  rw [rounds_succ]
  go_wp2
  rw [rounds_succ]
  go_wp2
  rw [rounds_succ]
  go_wp2
  rw [rounds_succ]
  go_wp2
  go_end0
  have s1 := box_modify5 (k := 1) HD2.out (.int .u8 15)
  have s0 := box_modify5 (k := 0) s1 (.int .u8 15)
  exact ⟨rfl, s0, (HB2.out.setCell (p := ⟨gd, 1, none⟩) (Nat.le_refl _) _).setCell (p := ⟨gd, 0, none⟩) (Nat.le_refl _) _⟩

theorem fig15 (h : 15 < (ByteArray.mk #[48, 49, 50, 51, 52, 53, 54, 55, 56, 57, 97, 98, 99, 100, 101, 102, 103, 104, 105, 106, 107, 108, 109, 110, 111, 112, 113, 114, 115, 116, 117, 118, 119, 120, 121, 122]).size) : (ByteArray.mk #[48, 49, 50, 51, 52, 53, 54, 55, 56, 57, 97, 98, 99, 100, 101, 102, 103, 104, 105, 106, 107, 108, 109, 110, 111, 112, 113, 114, 115, 116, 117, 118, 119, 120, 121, 122])[15] = 102 := rfl

theorem fig15n (h : 15 < (ByteArray.mk #[48, 49, 50, 51, 52, 53, 54, 55, 56, 57, 97, 98, 99, 100, 101, 102, 103, 104, 105, 106, 107, 108, 109, 110, 111, 112, 113, 114, 115, 116, 117, 118, 119, 120, 121, 122]).size) : (ByteArray.mk #[48, 49, 50, 51, 52, 53, 54, 55, 56, 57, 97, 98, 99, 100, 101, 102, 103, 104, 105, 106, 107, 108, 109, 110, 111, 112, 113, 114, 115, 116, 117, 118, 119, 120, 121, 122])[15].toNat = 102 := rfl

attribute [local go_sem] fig15 fig15n

theorem conv16 (gd : Nat) (w : World) (hd : w.heap[gd]? = some (.cells #[.int .u8 102, .int .u8 102] 5)) :
    (convert 66 9 (.slice (some ⟨gd, 0, none⟩) 2 2)).run Tryz.prog w = .ok (.string ⟨#[102, 102]⟩) w := by
  have c0 : w.cell? ⟨gd, 0, none⟩ = some (.int .u8 102) := by simp [World.cell?, hd]
  have c1 : w.cell? ⟨gd, 1, none⟩ = some (.int .u8 102) := by simp [World.cell?, hd]
  rw [run_convert_bytes_string w 66 9 5 _ _ _ Tryz.underlying66 Tryz.underlying5 Tryz.underlying9]
  rw [run_bytesToString w _ 2 2 [102, 102] (by simp [go_sem, loadCells, loadCellsFrom, c0, c1, Addr.add])]
  rfl

set_option maxRecDepth 20000 in
theorem text16 (gd : Nat) (w : World) (hd : w.heap[gd]? = some (.cells #[.int .u8 15, .int .u8 15] 5)) :
    Calls Tryz.prog 32 #[.slice (some ⟨gd, 0, none⟩) 2 2] w fun e w' => e = .returned (.string ⟨#[102, 102]⟩) ∧ Below gd w w' := by
  have c0 : w.cell? ⟨gd, 0, none⟩ = some (.int .u8 15) := by simp [World.cell?, hd]
  have c1 : w.cell? ⟨gd, 1, none⟩ = some (.int .u8 15) := by simp [World.cell?, hd]
  have hf : ∀ k, w.frozen? ⟨gd, k, none⟩ = false := fun k => by simp [World.frozen?, hd]
  have s1 := box_modify5 (k := 0) hd (.int .u8 102)
  have s0 := box_modify5 (k := 1) s1 (.int .u8 102)
  have hconv := conv16 gd _ s0
  have HB := hide (((Below.refl gd w).setCell (p := ⟨gd, 0, none⟩) (Nat.le_refl _) (.int .u8 102)).setCell (p := ⟨gd, 1, none⟩) (Nat.le_refl _) (.int .u8 102))
  clear hd s0 s1
  go_enter Tryz.func32, Tryz.ntmps32
  go_wp2
  refine wp_loop_rounds 3 ?_
  rw [rounds_succ]
  go_wp2
  rw [rounds_succ]
  go_wp2
  rw [rounds_succ]
  go_wp2
  go_ret
  exact ⟨rfl, HB.out⟩

end Go.Proofs.YthjgmijbjplcoaaGreatDoor

/- Package numeral: powers, greatest, written and Print of the laws' example. -/
namespace Go.Proofs.YthjgmijbjplcoaaGreatDoor
open Go.RowKit
open Lm
attribute [local go_sem ↓] Go.wp_at_zero Go.wp_at_succ

theorem Tryz.infoB : (Tryz.prog.info? 5).map (fun i => (i.zero, i.size, i.bytes)) = some (some (.int .u8 0), 1, 1) := by kernel_rfl

set_option maxRecDepth 20000 in
theorem powers16 (w : World) (hT : Tab w) : Calls Tryz.prog 51 #[.int .i64 16, .int .i64 2] w fun e w' => e = .returned (.slice none 0 0) ∧ w' = w := by
  have T1 := tz16 w hT
  have HLN := Tryz.bits_Len 1 w (by omega) (by omega)
  rw [show Lib.bitLen (1 : Int).toNat = 1 from rfl] at HLN
  clear hT
  go_enter Tryz.func51, Tryz.ntmps51
  go_wp2
  refine wp_loop_rounds 1 ?_
  rw [rounds_succ]
  go_wp2_with fail
  refine T1.mono ?_
  rintro e wn ⟨rfl, hw⟩; rw [hw]; clear hw wn T1
  go_wp2_with fail
  refine HLN.mono ?_
  rintro e wn ⟨rfl, hw⟩; rw [hw]; clear hw wn HLN
  go_wp2
  refine wp_loop_rounds 1 ?_
  rw [rounds_succ]
  go_wp2
  go_ret
  exact ⟨rfl, rfl⟩

theorem greatest16 (w : World) : Calls Tryz.prog 53 #[.slice none 0 0, .int .i64 2] w fun e w' => e = .returned (.tuple #[.agg #[.int .i64 0, .slice none 0 0, .int .i64 0], .bool false]) ∧ Below w.heap.size w w' := by
  have hb : Below w.heap.size w (w.alloc (.cells #[.int .i64 0, .slice none 0 0, .int .i64 0] 87)) := (Below.refl _ _).alloc (Nat.le_refl _) _
  have HB := hide hb
  clear hb
  go_enter Tryz.func53, Tryz.ntmps53
  go_wp2
  refine wp_loop_rounds 1 ?_
  rw [rounds_succ]
  go_wp2
  go_returns
  exact ⟨rfl, HB.out⟩

end Go.Proofs.YthjgmijbjplcoaaGreatDoor

/- Package numeral: written and Print of the laws' example. -/
namespace Go.Proofs.YthjgmijbjplcoaaGreatDoor
open Go.RowKit
open Lm
attribute [local go_sem ↓] Go.wp_at_zero Go.wp_at_succ

theorem run_store_func5 {P : Program} (w : World) (a : Addr) (m : Mode) (f : Fn) (x y : Array Value) : (store a (.func f x y) m).run P w = stored P w a (.func f x y) m := run_store P w a _ m rfl

attribute [local go_sem] run_store_func5

theorem cell_up5 {w w' : World} {g o : Nat} {v : Value} (hb : Below w.heap.size w w') (h : w.cell? ⟨g, o, none⟩ = some v) : w'.cell? ⟨g, o, none⟩ = some v := by
  rw [hb.cell (p := ⟨g, o, none⟩) ?_]
  · exact h
  · show g < w.heap.size
    rcases Nat.lt_or_ge g w.heap.size with h' | h'
    · exact h'
    · simp [World.cell?, Array.getElem?_eq_none h'] at h

theorem block_up6 {w w' : World} {g : Nat} {x : Obj} (hb : Below w.heap.size w w') (h : w.heap[g]? = some x) : w'.heap[g]? = some x := by
  rw [hb.block g (lt_of_block h)]; exact h

theorem box_one {w : World} {h : Nat} {a : Value} {t : TypeId} (e : w.heap[h]? = some (.cells #[a] t)) : w.cell? ⟨h, 0, none⟩ = some a := by simp [World.cell?, e]

theorem below_one5 (w : World) (o : Obj) : Below w.heap.size w (w.alloc o) := (Below.refl _ _).alloc (Nat.le_refl _) _

theorem made8 {w : World} {base n g : Nat} (h : w.ownsRow base 5 1 (.slice (some ⟨g, 0, none⟩) n n) n (madeCells (Value.int .u8 0).cells (n * 1)).toList) : w.heap[g]? = some (.cells (List.replicate n (Value.int .u8 0)).toArray 5) := by
  obtain ⟨_, h2⟩ := h
  rcases h2 with ⟨h2, _⟩ | ⟨g', cap, cur, hv, _, hh, _, _, hs, ht⟩
  · cases h2
  · cases hv
    rw [hh]
    have e : cur.toList = List.replicate n (Value.int .u8 0) := by
      have : cur.toList.take (n * 1) = cur.toList := List.take_of_length_le (by simp; omega)
      rw [← this, ht]
      show (madeCells #[Value.int .u8 0] (n * 1)).toList = _
      rw [toList_madeCells_one, Nat.mul_one]
    rw [← e]

set_option maxRecDepth 20000 in
theorem write16 (gl gb gw gd : Nat) (va : Value) (X : List Nat) (w : World) (hA : Arg w va X) (hX : tr X = [255]) (hl : X.length ≤ 1000) (hd : w.heap[gd]? = some (.cells #[.int .u8 0, .int .u8 0] 5)) (cl : w.cell? ⟨gl, 0, none⟩ = some (.slice none 0 0)) (cb : w.cell? ⟨gb, 0, none⟩ = some (.int .i64 16)) :
    Calls Tryz.prog 52 #[.slice (some ⟨gd, 0, none⟩) 2 2, va, .pointer (some ⟨gl, 0, none⟩), .pointer (some ⟨gb, 0, none⟩), .pointer (some ⟨gw, 0, none⟩)] w fun e w' => e = .returned (.tuple #[]) ∧ w'.heap[gd]? = some (.cells #[.int .u8 15, .int .u8 15] 5) ∧ Below gd w w' := by
  have HG := greatest16 w
  have hlt := lt_of_block hd
  have FW := hide (fun (w2 : World) (hb : Below w.heap.size w w2) => writeFew16 gd va X w2 (hA.below hb) hX hl (block_up6 hb hd))
  clear hA hX hd
  go_enter Tryz.func52, Tryz.ntmps52
  go_wp2_with fail
  refine HG.mono ?_
  rintro e w1 ⟨rfl, hb1⟩
  obtain ⟨w2, hw2⟩ : ∃ w2, w1.alloc (.cells #[.int .i64 0, .slice none 0 0, .int .i64 0] 87) = w2 := ⟨_, rfl⟩
  have hb12 : Below w1.heap.size w1 w2 := by rw [← hw2]; exact below_one5 _ _
  have hb2 := hb1.trans (hb12.mono hb1.size)
  have cb2 := cell_up5 hb2 cb
  rw [← hw2] at cb2
  have F2 := FW.out w2 hb2
  have HB2 := hide (hb2.mono (Nat.le_of_lt hlt))
  have HW2 := hide hw2
  clear HG hb1 hb12 hb2 FW hw2
  go_wp2_with fail
  rw [HW2.out]
  refine F2.mono ?_
  rintro e w3 ⟨rfl, hd3, hb3⟩
  have HD := hide (And.intro hd3 (HB2.out.trans hb3))
  clear F2 hd3 hb3 cb2
  go_wp2
  go_returns
  exact ⟨rfl, HD.out.1, HD.out.2⟩

set_option maxRecDepth 20000 in
set_option maxHeartbeats 1000000 in
theorem written16 (va : Value) (X : List Nat) (w : World) (hA : Arg w va X) (hT : Tab w) (hX : tr X = [255]) (hl : X.length = 1) :
    Calls Tryz.prog 33 #[va, .int .i64 16] w fun e w' => (∃ g, e = .returned (.slice (some ⟨g, 0, none⟩) 2 2) ∧ w.heap.size ≤ g ∧ w'.heap[g]? = some (.cells #[.int .u8 15, .int .u8 15] 5)) ∧ Below w.heap.size w w' := by
  obtain ⟨i0, hi, hz0, hz1, hz2⟩ := info_parts Tryz.infoB
  obtain ⟨w0, hw0⟩ : ∃ w0, w.alloc (.cells #[.int .i64 16] 3) = w0 := ⟨_, rfl⟩
  have hb0 : Below w.heap.size w w0 := by rw [← hw0]; exact below_one5 _ _
  have hs0 : w0.heap.size = w.heap.size + 1 := by rw [← hw0]; exact World.size_alloc _ _
  have cb : w0.cell? ⟨w.heap.size, 0, none⟩ = some (.int .i64 16) := box_one (by rw [← hw0]; exact heap_alloc_new ..)
  have hv : val X = 255 := by rw [← val_tr X, hX]; rfl
  have HC := count255 va X w0 (hA.below hb0) (hT.below hb0) hv hl
  have HA := hide hA
  have HT := hide hT
  have HW0 := hide hw0
  have HB0 := hide hb0
  have HS0 := hide hs0
  have HX := hide (And.intro hX hl)
  clear hA hT hw0 hb0 hX hl hv hs0
  go_enter Tryz.func33, Tryz.ntmps33
  go_wp2_with fail
  rw [HW0.out]
  refine HC.mono ?_
  rintro e wn ⟨rfl, hw⟩; rw [hw]; clear hw wn HC
  go_wp2_with (at_make; refine wpList_make_full _ rfl _ _ 66 rfl w0.heap.size 5 i0 (.int .u8 0) 1 Tryz.underlying66 hi hz0 hz1 .i64 .i64 _ _ 2 rfl rfl (by rfl) (by rfl) (by rw [hz2]; omega) (by unfold maxLen; omega) (Nat.le_refl _) ?_; intro w1 hown hgrow; have hb1 : Below w0.heap.size w0 w1 := (Below.refl w0.heap.size w0).grown hgrow (Nat.le_refl _) (fun k hk => by cases hk); have cb1 := cell_up5 hb1 cb)
  have hd1 : w1.heap[w0.heap.size]? = some (.cells #[.int .u8 0, .int .u8 0] 5) := made8 (n := 2) hown
  have HBB := hid_below HB0 hb1
  have HP := powers16 w1 (HT.out.below HBB.out)
  obtain ⟨gd, hgd⟩ : ∃ gd, w0.heap.size = gd := ⟨_, rfl⟩
  rw [hgd] at hd1
  have hgdw : w.heap.size ≤ gd := by have := HS0.out; omega
  have HD1 := hide hd1
  have HGD := hide hgd
  clear hown hgrow hi hz0 hz1 hz2 hb1 cb hd1 hgd
  go_wp2_with fail
  rw [HGD.out]
  refine HP.mono ?_
  rintro e wn ⟨rfl, hw⟩; rw [hw]; clear hw wn HP
  obtain ⟨w2, hw2⟩ : ∃ w2, w1.alloc (.cells #[.slice none 0 0] 83) = w2 := ⟨_, rfl⟩
  have hs2 : w2.heap.size = w1.heap.size + 1 := by rw [← hw2]; exact World.size_alloc _ _
  obtain ⟨w3, hw3⟩ : ∃ w3, w2.alloc (.cells #[.func (.func 52) #[] #[.pointer (some ⟨w1.heap.size, 0, none⟩), .pointer (some ⟨w.heap.size, 0, none⟩), .pointer (some ⟨w1.heap.size + 1, 0, none⟩)]] 85) = w3 := ⟨_, rfl⟩
  have hb2 : Below w1.heap.size w1 w2 := by rw [← hw2]; exact below_one5 _ _
  have hb3 : Below w2.heap.size w2 w3 := by rw [← hw3]; exact below_one5 _ _
  have hb13 := hb2.trans (hb3.mono hb2.size)
  have cl := cell_up5 hb3 (box_one (show w2.heap[w1.heap.size]? = some (.cells #[.slice none 0 0] 83) by rw [← hw2]; exact heap_alloc_new ..))
  have cb3 := cell_up5 hb13 cb1
  have cw : w3.cell? ⟨w1.heap.size + 1, 0, none⟩ = some (.func (.func 52) #[] #[.pointer (some ⟨w1.heap.size, 0, none⟩), .pointer (some ⟨w.heap.size, 0, none⟩), .pointer (some ⟨w1.heap.size + 1, 0, none⟩)]) := box_one (t := 85) (by
    have h := heap_alloc_new w2 (.cells #[.func (.func 52) #[] #[.pointer (some ⟨w1.heap.size, 0, none⟩), .pointer (some ⟨w.heap.size, 0, none⟩), .pointer (some ⟨w1.heap.size + 1, 0, none⟩)]] 85)
    rw [hs2, hw3] at h
    exact h)
  have HBB3 := hid_below HBB hb13
  have FW := write16 w1.heap.size w.heap.size (w1.heap.size + 1) gd va X w3 (HA.out.below HBB3.out) HX.out.1 (by have := HX.out.2; omega) (block_up6 hb13 HD1.out) cl cb3
  have HW3 := hide (show (w1.alloc (.cells #[.slice none 0 0] 83)).alloc (.cells #[.func (.func 52) #[] #[.pointer (some ⟨w1.heap.size, 0, none⟩), .pointer (some ⟨w.heap.size, 0, none⟩), .pointer (some ⟨w1.heap.size + 1, 0, none⟩)]] 85) = w3 by rw [hw2, hw3])
  rw [← HW3.out] at cw
  clear hb2 hb3 hb13 cl cb3 hw2 hw3 hs2 cb1
  go_wp2_with fail
  rw [HW3.out]
  refine FW.mono ?_
  rintro e w4 ⟨rfl, hd4, hb4⟩
  have HD := hide (And.intro hd4 (HBB3.out.trans (hb4.mono hgdw)))
  clear FW hd4 hb4 cw
  go_wp2
  go_ret
  exact ⟨⟨gd, rfl, hgdw, HD.out.1⟩, HD.out.2⟩

theorem print16 (va : Value) (X : List Nat) (w : World) (hA : Arg w va X) (hT : Tab w) (hX : tr X = [255]) (hl : X.length = 1) :
    Calls Tryz.prog 12 #[va, .int .i64 16] w fun e w' => e = .returned (.tuple #[.string ⟨#[102, 102]⟩, .int .i64 0]) ∧ Below w.heap.size w w' := by
  have HI := isBase16 w
  have HW := written16 va X w hA hT hX hl
  clear hA hT hX hl
  go_enter Tryz.func12, Tryz.ntmps12
  go_wp2_with fail
  refine HI.mono ?_
  rintro e wn ⟨rfl, hw⟩; rw [hw]; clear hw wn HI
  go_wp2_with fail
  refine HW.mono ?_
  rintro e w1 ⟨⟨g, rfl, hg, hd⟩, hb⟩
  have HT := text16 g w1 hd
  have HB := hide hb
  clear HW hd hb
  go_wp2_with fail
  refine HT.mono ?_
  rintro e w2 ⟨rfl, hb⟩
  have HB2 := hide (HB.out.trans (hb.mono hg))
  clear HT hb
  go_wp2
  go_returns
  exact ⟨rfl, HB2.out⟩

end Go.Proofs.YthjgmijbjplcoaaGreatDoor

/- Package numeral: surelyBig of the laws' example. -/
namespace Go.Proofs.YthjgmijbjplcoaaGreatDoor
open Go.RowKit
open Lm
attribute [local go_sem ↓] Go.wp_at_zero Go.wp_at_succ

theorem box2 {w : World} {h : Nat} {a b : Value} {t : TypeId} (e : w.heap[h]? = some (.cells #[a, b] t)) : w.cell? ⟨h, 0, none⟩ = some a ∧ w.cell? ⟨h, 1, none⟩ = some b :=
  ⟨by simp [World.cell?, e], by simp [World.cell?, e]⟩

theorem box2f {w : World} {h : Nat} {a b : Value} {t : TypeId} (e : w.heap[h]? = some (.cells #[a, b] t)) : ∀ k, w.frozen? ⟨h, k, none⟩ = false := fun k => by simp [World.frozen?, e]

theorem lz1 (w : World) : Calls Tryz.prog 122 #[.int .u64 1] w fun e w' => e = .returned (.int .i64 63) ∧ w' = w :=
  Tryz.bits_LeadingZeros64 1 w (by omega) (by omega)

theorem lz16 (w : World) : Calls Tryz.prog 122 #[.int .u64 16] w fun e w' => e = .returned (.int .i64 59) ∧ w' = w :=
  Tryz.bits_LeadingZeros64 16 w (by omega) (by omega)

theorem nearOf1 (w : World) : Calls Tryz.prog 112 #[.int .u64 1] w fun e w' => e = .returned (.agg #[.int .u64 9223372036854775808, .int .i64 (-63)]) ∧ Below w.heap.size w w' := by
  have HB := hide (below_one5 w (.cells #[.int .u64 9223372036854775808, .int .i64 (-63)] 127))
  go_enter Tryz.func112, Tryz.ntmps112
  go_wp2_with fail
  refine (lz1 _).mono ?_
  rintro e wn ⟨rfl, hw⟩; rw [hw]; clear hw wn
  go_wp2
  go_returns
  exact ⟨rfl, HB.out⟩

theorem nearOf16 (w : World) : Calls Tryz.prog 112 #[.int .u64 16] w fun e w' => e = .returned (.agg #[.int .u64 9223372036854775808, .int .i64 (-59)]) ∧ Below w.heap.size w w' := by
  have HB := hide (below_one5 w (.cells #[.int .u64 9223372036854775808, .int .i64 (-59)] 127))
  go_enter Tryz.func112, Tryz.ntmps112
  go_wp2_with fail
  refine (lz16 _).mono ?_
  rintro e wn ⟨rfl, hw⟩; rw [hw]; clear hw wn
  go_wp2
  go_returns
  exact ⟨rfl, HB.out⟩

theorem mul63 (w : World) : Calls Tryz.prog 97 #[.int .u64 9223372036854775808, .int .u64 9223372036854775808] w fun e w' => e = .returned (.tuple #[.int .u64 4611686018427387904, .int .u64 0]) ∧ w' = w :=
  Tryz.bits_Mul64 9223372036854775808 9223372036854775808 (by omega) (by omega) w

theorem times63 (e1 e2 e3 e4 e5 : Int) (w : World) (h1 : e1 + e2 = e3) (h2 : e3 + 64 = e4) (h3 : e4 - 1 = e5) (b1 : -1000 ≤ e3) (b2 : e3 ≤ 1000) :
    Calls Tryz.prog 113 #[.agg #[.int .u64 9223372036854775808, .int .i64 e1], .agg #[.int .u64 9223372036854775808, .int .i64 e2]] w fun e w' => e = .returned (.agg #[.int .u64 9223372036854775808, .int .i64 e5]) ∧ Below w.heap.size w w' := by
  have ba := below_one5 w (.cells #[.int .u64 9223372036854775808, .int .i64 e1] 127)
  have bb := below_one5 (w.alloc (.cells #[.int .u64 9223372036854775808, .int .i64 e1] 127)) (.cells #[.int .u64 9223372036854775808, .int .i64 e2] 127)
  have bc := below_one5 ((w.alloc (.cells #[.int .u64 9223372036854775808, .int .i64 e1] 127)).alloc (.cells #[.int .u64 9223372036854775808, .int .i64 e2] 127)) (.cells #[.int .u64 9223372036854775808, .int .i64 e5] 127)
  have bab := ba.trans (bb.mono ba.size)
  have HB := hide (bab.trans (bc.mono bab.size))
  have w3 : IntKind.i64.wrap e3 = e3 := by rw [IntKind.wrap_i64]; omega
  have w4 : IntKind.i64.wrap e4 = e4 := by rw [IntKind.wrap_i64]; omega
  have w5 : IntKind.i64.wrap e5 = e5 := by rw [IntKind.wrap_i64]; omega
  clear ba bb bc bab
  go_enter Tryz.func113, Tryz.ntmps113
  go_wp2_with fail
  refine (mul63 _).mono ?_
  rintro e wn ⟨rfl, hw⟩; rw [hw]; clear hw wn
  go_wp2
  go_returns
  exact ⟨rfl, HB.out⟩

end Go.Proofs.YthjgmijbjplcoaaGreatDoor

/- Package numeral: surelyBig, readFew of the laws' example. -/
namespace Go.Proofs.YthjgmijbjplcoaaGreatDoor
open Go.RowKit
open Lm
attribute [local go_sem ↓] Go.wp_at_zero Go.wp_at_succ

theorem box2_all {w : World} {h : Nat} {a b a' b' : Value} {t : TypeId} (e : w.heap[h]? = some (.cells #[a, b] t)) : ((w.setCell ⟨h, 0, none⟩ a').setCell ⟨h, 1, none⟩ b').heap[h]? = some (.cells #[a', b'] t) :=
  box_modify5 (box_modify5 e a') b'

theorem box_other5 {w : World} {h g o : Nat} {x : Obj} {v : Value} (e : w.heap[h]? = some x) (hne : h ≠ g) : (w.setCell ⟨g, o, none⟩ v).heap[h]? = some x := by
  rw [Below.heap_setCell _ _ _ _ hne]; exact e

theorem below_set2 {B : Nat} {w0 w : World} {g : Nat} {u0 u1 : Value} (h : Below B w0 w) (hg : B ≤ g) : Below B w0 ((w.setCell ⟨g, 0, none⟩ u0).setCell ⟨g, 1, none⟩ u1) :=
  (h.setCell (p := ⟨g, 0, none⟩) hg u0).setCell (p := ⟨g, 1, none⟩) hg u1

set_option maxRecDepth 20000 in
set_option maxHeartbeats 1000000 in
theorem nearPower16 (w : World) : Calls Tryz.prog 88 #[.int .u64 16, .int .i64 1] w fun e w' => e = .returned (.agg #[.int .u64 9223372036854775808, .int .i64 (-59)]) ∧ Below w.heap.size w w' := by
  have HLN := fun W => Tryz.bits_Len 1 W (by omega) (by omega)
  rw [show Lib.bitLen (1 : Int).toNat = 1 from rfl] at HLN
  obtain ⟨w0, hw0⟩ : ∃ w0, w.alloc (.cells #[.int .u64 0, .int .i64 0] 127) = w0 := ⟨_, rfl⟩
  have hb0 : Below w.heap.size w w0 := by rw [← hw0]; exact below_one5 _ _
  have h0 : w0.heap[w.heap.size]? = some (.cells #[.int .u64 0, .int .i64 0] 127) := by rw [← hw0]; exact heap_alloc_new ..
  have HW0 := hide hw0
  have HB0 := hide hb0
  have H0 := hide h0
  clear hw0 hb0 h0
  go_enter Tryz.func88, Tryz.ntmps88
  go_wp2_with fail
  rw [HW0.out]
  refine (nearOf1 w0).mono ?_
  rintro e w1 ⟨rfl, hb1⟩
  have HB1 := hide hb1
  clear hb1
  go_wp2_with fail
  refine (nearOf16 w1).mono ?_
  rintro e w2 ⟨rfl, hb2⟩
  have hb02 := HB1.out.trans (hb2.mono HB1.out.size)
  obtain ⟨wa, hwa⟩ : ∃ wa, w2.alloc (.cells #[.int .u64 9223372036854775808, .int .i64 (-63)] 127) = wa := ⟨_, rfl⟩
  have hsa : wa.heap.size = w2.heap.size + 1 := by rw [← hwa]; exact World.size_alloc _ _
  obtain ⟨w3, hw3⟩ : ∃ w3, wa.alloc (.cells #[.int .u64 9223372036854775808, .int .i64 (-59)] 127) = w3 := ⟨_, rfl⟩
  have hba : Below w2.heap.size w2 wa := by rw [← hwa]; exact below_one5 _ _
  have hb3 : Below wa.heap.size wa w3 := by rw [← hw3]; exact below_one5 _ _
  have hb23 := hba.trans (hb3.mono hba.size)
  have k5 : w3.heap[w2.heap.size]? = some (.cells #[.int .u64 9223372036854775808, .int .i64 (-63)] 127) := block_up6 hb3 (by rw [← hwa]; exact heap_alloc_new ..)
  have k6 : w3.heap[w2.heap.size + 1]? = some (.cells #[.int .u64 9223372036854775808, .int .i64 (-59)] 127) := by
    have h := heap_alloc_new wa (.cells #[.int .u64 9223372036854775808, .int .i64 (-59)] 127)
    rw [hsa, hw3] at h
    exact h
  have hb03 := hb02.trans (hb23.mono hb02.size)
  have k4 := block_up6 hb03 H0.out
  have HW3 := hide (show (w2.alloc (.cells #[.int .u64 9223372036854775808, .int .i64 (-63)] 127)).alloc (.cells #[.int .u64 9223372036854775808, .int .i64 (-59)] 127) = w3 by rw [hwa, hw3])
  have HB3 := hide (HB0.out.trans (hb03.mono HB0.out.size))
  have hlt : w.heap.size < w2.heap.size := Nat.lt_of_lt_of_le (lt_of_block H0.out) hb02.size
  obtain ⟨g, hg⟩ : ∃ g, w2.heap.size = g := ⟨_, rfl⟩
  obtain ⟨g6, hg6⟩ : ∃ g6, g + 1 = g6 := ⟨_, rfl⟩
  rw [hg] at k5 hlt
  rw [hg, hg6] at k6
  have HG := hide (And.intro hg hg6)
  have hg6' : g < g6 := by omega
  have HK := hide (And.intro k4 (And.intro k5 k6))
  clear hb2 hb02 hwa hw3 hba hb3 hb23 hb03 hsa k4 k5 k6 hg hg6
  go_wp2_with fail
  rw [HW3.out]
  refine (HLN _).mono ?_
  rintro e wn ⟨rfl, hw⟩; rw [hw, HG.out.1, HG.out.2]; clear hw wn HLN
  go_wp2
  refine wp_loop_rounds 2 ?_
  rw [rounds_succ]
  obtain ⟨c50, c51⟩ := box2 HK.out.2.1
  obtain ⟨c60, c61⟩ := box2 HK.out.2.2
  have F1 := times63 (-63) (-63) (-126) (-62) (-63) w3 (by omega) (by omega) (by omega) (by omega) (by omega)
  go_wp2_with fail
  refine F1.mono ?_
  rintro e w4 ⟨rfl, hb4⟩
  have k5 := block_up6 hb4 HK.out.2.1
  have k6 := block_up6 hb4 HK.out.2.2
  have k4 := block_up6 hb4 HK.out.1
  have HB4 := hide (HB3.out.trans (hb4.mono HB3.out.size))
  have hf5 := box2f k5
  obtain ⟨d50, d51⟩ := box2 k5
  have s5 := box2_all k5 (a' := .int .u64 9223372036854775808) (b' := .int .i64 (-63))
  obtain ⟨w5, hw5⟩ : ∃ w5, (w4.setCell ⟨g, 0, none⟩ (.int .u64 9223372036854775808)).setCell ⟨g, 1, none⟩ (.int .i64 (-63)) = w5 := ⟨_, rfl⟩
  have s6 : w5.heap[g6]? = some (.cells #[.int .u64 9223372036854775808, .int .i64 (-59)] 127) := by rw [← hw5]; exact box_other5 (box_other5 k6 (by omega)) (by omega)
  have s4 : w5.heap[w.heap.size]? = some (.cells #[.int .u64 0, .int .i64 0] 127) := by rw [← hw5]; exact box_other5 (box_other5 k4 (by omega)) (by omega)
  have HB5 := hide (show Below w.heap.size w w5 by rw [← hw5]; exact below_set2 HB4.out (by omega))
  rw [hw5] at s5
  have x5 := box2 s5
  have x6 := box2 s6
  rw [← hw5] at x5 x6
  obtain ⟨x50, x51⟩ := x5
  obtain ⟨x60, x61⟩ := x6
  have F2 := times63 (-63) (-59) (-122) (-58) (-59) w5 (by omega) (by omega) (by omega) (by omega) (by omega)
  have HW5 := hide hw5
  have HS := hide (And.intro s4 s5)
  clear F1 hb4 k4 k5 k6 hw5 s4 s5 s6 HK c50 c51 c60 c61
  go_wp2_with fail
  rw [HW5.out]
  refine F2.mono ?_
  rintro e w6 ⟨rfl, hb6⟩
  have k5 := block_up6 hb6 HS.out.2
  have k4 := block_up6 hb6 HS.out.1
  have HB6 := hide (HB5.out.trans (hb6.mono HB5.out.size))
  clear x50 x51 x60 x61 hf5 d50 d51 F2 hb6
  have hf5 := box2f k5
  obtain ⟨d50, d51⟩ := box2 k5
  have s5 := box2_all k5 (a' := .int .u64 9223372036854775808) (b' := .int .i64 (-59))
  obtain ⟨w7, hw7⟩ : ∃ w7, (w6.setCell ⟨g, 0, none⟩ (.int .u64 9223372036854775808)).setCell ⟨g, 1, none⟩ (.int .i64 (-59)) = w7 := ⟨_, rfl⟩
  have s4 : w7.heap[w.heap.size]? = some (.cells #[.int .u64 0, .int .i64 0] 127) := by rw [← hw7]; exact box_other5 (box_other5 k4 (by omega)) (by omega)
  have HB7 := hide (show Below w.heap.size w w7 by rw [← hw7]; exact below_set2 HB6.out (by omega))
  rw [hw7] at s5
  have x5 := box2 s5
  have x4 := box2 s4
  have f4 := box2f s4
  rw [← hw7] at x5 x4 f4
  obtain ⟨x50, x51⟩ := x5
  obtain ⟨x40, x41⟩ := x4
  have HW7 := hide hw7
  have HS7 := hide s4
  clear k4 k5 hw7 s4 s5
  go_wp2
  rw [rounds_succ]
  go_wp2
  rw [HW7.out]
  have R5 := box2_all HS7.out (a' := .int .u64 9223372036854775808) (b' := .int .i64 (-59))
  have HD := hide (below_set2 HB7.out (g := w.heap.size) (u0 := .int .u64 9223372036854775808) (u1 := .int .i64 (-59)) (Nat.le_refl _))
  clear x50 x51 x40 x41 f4 hf5 d50 d51
  generalize (w7.setCell ⟨w.heap.size, 0, none⟩ (.int .u64 9223372036854775808)).setCell ⟨w.heap.size, 1, none⟩ (.int .i64 (-59)) = w8 at *
  obtain ⟨q0, q1⟩ := box2 R5
  refine bodyPost_ret (v := .agg #[.int .u64 9223372036854775808, .int .i64 (-59)]) (by simp [results, Tryz.results88, go_sem, q0, q1]) rfl ?_
  exact ⟨rfl, HD.out⟩

end Go.Proofs.YthjgmijbjplcoaaGreatDoor

/- Package numeral: read of the laws' example. -/
namespace Go.Proofs.YthjgmijbjplcoaaGreatDoor
open Go.RowKit
open Lm
attribute [local go_sem ↓] Go.wp_at_zero Go.wp_at_succ

theorem surelyBig16 (w : World) : Calls Tryz.prog 91 #[.int .i64 2, .int .u64 16] w fun e w' => e = .returned (.bool false) ∧ Below w.heap.size w w' := by
  go_enter Tryz.func91, Tryz.ntmps91
  go_wp2_with fail
  refine (nearPower16 w).mono ?_
  rintro e w1 ⟨rfl, hb⟩
  have HB := hide (hb.trans ((below_one5 w1 (.cells #[.int .u64 9223372036854775808, .int .i64 (-59)] 127)).mono hb.size))
  clear hb
  go_wp2
  go_ret
  exact ⟨rfl, HB.out⟩

theorem grow_nil (v more : Int) (w : World) : Calls Tryz.prog 114 #[.slice none 0 0, .int .u64 v, .int .u64 more] w fun e w' => e = .returned (.int .u64 more) ∧ w' = w := by
  go_enter Tryz.func114, Tryz.ntmps114
  go_wp2
  refine wp_loop_rounds 1 ?_
  rw [rounds_succ]
  go_wp2
  go_ret
  exact ⟨rfl, rfl⟩

set_option maxRecDepth 20000 in
set_option maxHeartbeats 1000000 in
theorem readFew16 (gd : Nat) (w : World) (hd : w.heap[gd]? = some (.cells #[.int .u8 0, .int .u8 0, .int .u8 15, .int .u8 15] 5)) :
    Calls Tryz.prog 93 #[.slice (some ⟨gd, 2, none⟩) 2 2, .int .i64 16] w fun e w' => (∃ v, e = .returned v ∧ Ans w' w.heap.size v [255]) ∧ Below w.heap.size w w' := by
  have HU := unit16 w
  obtain ⟨i0, hi, hz0, hz1, hz2⟩ := info_parts Tryz.infoU
  have c2 : w.cell? ⟨gd, 2, none⟩ = some (.int .u8 15) := by simp [World.cell?, hd]
  have c3 : w.cell? ⟨gd, 3, none⟩ = some (.int .u8 15) := by simp [World.cell?, hd]
  have HG := grow_nil 1152921504606846976 255 w
  clear hd
  go_enter Tryz.func93, Tryz.ntmps93
  go_wp2_with fail
  refine HU.mono ?_
  rintro e wn ⟨rfl, hw⟩; rw [hw]; clear hw wn HU
  go_wp2
  refine wp_loop_rounds 2 ?_
  rw [rounds_succ]
  go_wp2
  refine wp_loop_rounds 3 ?_
  rw [rounds_succ]
  go_wp2
  rw [rounds_succ]
  go_wp2
  rw [rounds_succ]
  go_wp2_with fail
  refine HG.mono ?_
  rintro e wn ⟨rfl, hw⟩; rw [hw]; clear hw wn HG
  go_wp2_with (at_builtin; refine wpList_append_own _ rfl _ _ 24 rfl w.heap.size 62 i0 (.int .u64 0) 1 8 Tryz.underlying24 hi hz0 hz1 hz2 rfl (by decide) _ 0 [] rfl (World.ownsRow_nil _ _ _ _) ⟨w.heap.size, 0, none⟩ 1 1 ([255].map lv) rfl rfl (news_cells [255]) (lv_oneCell _) (by unfold maxLen; omega) (by omega) (by rw [World.size_alloc]; omega) ?_; intro v' w1 hown hgrow _)
  rw [Nat.zero_add, List.nil_append] at hown
  have HA : Hid (Ans w1 w.heap.size v' [255]) := hide ⟨hown, by intro z hz; simp at hz; omega⟩
  have HB := hide ((below_one5 w (.cells #[.int .u64 255] 62)).grown hgrow (by rw [World.size_alloc]; omega) (fun k hk => by cases hk))
  clear hown hgrow hi hz0 hz1 hz2
  rw [rounds_succ]
  go_wp2
  go_ret
  exact ⟨⟨_, rfl, HA.out⟩, HB.out⟩

attribute [local go_sem] run_store_func5

set_option maxRecDepth 20000 in
theorem value16 (gl gb gv gd : Nat) (w : World) (hd : w.heap[gd]? = some (.cells #[.int .u8 0, .int .u8 0, .int .u8 15, .int .u8 15] 5)) (cl : w.cell? ⟨gl, 0, none⟩ = some (.slice none 0 0)) (cb : w.cell? ⟨gb, 0, none⟩ = some (.int .i64 16)) :
    Calls Tryz.prog 92 #[.slice (some ⟨gd, 2, none⟩) 2 2, .pointer (some ⟨gl, 0, none⟩), .pointer (some ⟨gb, 0, none⟩), .pointer (some ⟨gv, 0, none⟩)] w fun e w' => (∃ v, e = .returned (.tuple #[v, .int .i64 0]) ∧ Ans w' w.heap.size v [255]) ∧ Below w.heap.size w w' := by
  have HG := greatest16 w
  have FW := hide (fun (w2 : World) (hb : Below w.heap.size w w2) => readFew16 gd w2 (block_up6 hb hd))
  clear hd
  go_enter Tryz.func92, Tryz.ntmps92
  go_wp2_with fail
  refine HG.mono ?_
  rintro e w1 ⟨rfl, hb1⟩
  obtain ⟨w2, hw2⟩ : ∃ w2, w1.alloc (.cells #[.int .i64 0, .slice none 0 0, .int .i64 0] 87) = w2 := ⟨_, rfl⟩
  have hb12 : Below w1.heap.size w1 w2 := by rw [← hw2]; exact below_one5 _ _
  have hb2 := hb1.trans (hb12.mono hb1.size)
  have cb2 := cell_up5 hb2 cb
  rw [← hw2] at cb2
  have F2 := FW.out w2 hb2
  have HB2 := hide hb2
  have HW2 := hide hw2
  clear HG hb1 hb12 hb2 FW hw2
  go_wp2_with fail
  rw [HW2.out]
  refine F2.mono ?_
  rintro e w3 ⟨⟨v, rfl, hA⟩, hb3⟩
  have HD := hide (And.intro (hA.base HB2.out.size) (HB2.out.trans (hb3.mono HB2.out.size)))
  clear F2 hA hb3 cb2
  go_wp2
  go_returns
  exact ⟨⟨v, rfl, HD.out.1⟩, HD.out.2⟩

set_option maxRecDepth 20000 in
set_option maxHeartbeats 1000000 in
theorem read16 (gd : Nat) (w : World) (hT : Tab w) (hd : w.heap[gd]? = some (.cells #[.int .u8 0, .int .u8 0, .int .u8 15, .int .u8 15] 5)) :
    Calls Tryz.prog 63 #[.slice (some ⟨gd, 2, none⟩) 2 2, .int .i64 16] w fun e w' => (∃ v, e = .returned (.tuple #[v, .int .i64 0]) ∧ Ans w' w.heap.size v [255]) ∧ Below w.heap.size w w' := by
  obtain ⟨w0, hw0⟩ : ∃ w0, w.alloc (.cells #[.int .i64 16] 3) = w0 := ⟨_, rfl⟩
  have hb0 : Below w.heap.size w w0 := by rw [← hw0]; exact below_one5 _ _
  have cb : w0.cell? ⟨w.heap.size, 0, none⟩ = some (.int .i64 16) := box_one (by rw [← hw0]; exact heap_alloc_new ..)
  have HS := surelyBig16 w0
  have HT := hide hT
  have HW0 := hide hw0
  have HB0 := hide hb0
  have HD0 := hide hd
  clear hT hw0 hb0 hd
  go_enter Tryz.func63, Tryz.ntmps63
  go_wp2_with fail
  rw [HW0.out]
  refine HS.mono ?_
  rintro e w1 ⟨rfl, hb1⟩
  have cb1 := cell_up5 hb1 cb
  have HBB := hid_below HB0 hb1
  have HP := powers16 w1 (HT.out.below HBB.out)
  clear HS hb1 cb
  go_wp2_with fail
  refine HP.mono ?_
  rintro e wn ⟨rfl, hw⟩; rw [hw]; clear hw wn HP
  obtain ⟨w2, hw2⟩ : ∃ w2, w1.alloc (.cells #[.slice none 0 0] 83) = w2 := ⟨_, rfl⟩
  have hs2 : w2.heap.size = w1.heap.size + 1 := by rw [← hw2]; exact World.size_alloc _ _
  obtain ⟨w3, hw3⟩ : ∃ w3, w2.alloc (.cells #[.func (.func 92) #[] #[.pointer (some ⟨w1.heap.size, 0, none⟩), .pointer (some ⟨w.heap.size, 0, none⟩), .pointer (some ⟨w1.heap.size + 1, 0, none⟩)]] 133) = w3 := ⟨_, rfl⟩
  have hb2 : Below w1.heap.size w1 w2 := by rw [← hw2]; exact below_one5 _ _
  have hb3 : Below w2.heap.size w2 w3 := by rw [← hw3]; exact below_one5 _ _
  have hb13 := hb2.trans (hb3.mono hb2.size)
  have cl := cell_up5 hb3 (box_one (show w2.heap[w1.heap.size]? = some (.cells #[.slice none 0 0] 83) by rw [← hw2]; exact heap_alloc_new ..))
  have cb3 := cell_up5 hb13 cb1
  have cw : w3.cell? ⟨w1.heap.size + 1, 0, none⟩ = some (.func (.func 92) #[] #[.pointer (some ⟨w1.heap.size, 0, none⟩), .pointer (some ⟨w.heap.size, 0, none⟩), .pointer (some ⟨w1.heap.size + 1, 0, none⟩)]) := box_one (t := 133) (by
    have h := heap_alloc_new w2 (.cells #[.func (.func 92) #[] #[.pointer (some ⟨w1.heap.size, 0, none⟩), .pointer (some ⟨w.heap.size, 0, none⟩), .pointer (some ⟨w1.heap.size + 1, 0, none⟩)]] 133)
    rw [hs2, hw3] at h
    exact h)
  have HBB3 := hid_below HBB hb13
  have FW := value16 w1.heap.size w.heap.size (w1.heap.size + 1) gd w3 (block_up6 HBB3.out HD0.out) cl cb3
  have HW3 := hide (show (w1.alloc (.cells #[.slice none 0 0] 83)).alloc (.cells #[.func (.func 92) #[] #[.pointer (some ⟨w1.heap.size, 0, none⟩), .pointer (some ⟨w.heap.size, 0, none⟩), .pointer (some ⟨w1.heap.size + 1, 0, none⟩)]] 133) = w3 by rw [hw2, hw3])
  rw [← HW3.out] at cw
  clear hb2 hb3 hb13 cl cb3 hw2 hw3 hs2 cb1
  go_wp2_with fail
  rw [HW3.out]
  refine FW.mono ?_
  rintro e w4 ⟨⟨v, rfl, hA⟩, hb4⟩
  have HD := hide (And.intro (hA.base HBB3.out.size) (hid_below HBB3 hb4).out)
  clear FW hA hb4 cw
  go_wp2
  go_returns
  exact ⟨⟨v, rfl, HD.out.1⟩, HD.out.2⟩

end Go.Proofs.YthjgmijbjplcoaaGreatDoor

/- Package numeral: Parse of the laws' example; the example. -/
namespace Go.Proofs.YthjgmijbjplcoaaGreatDoor
open Go.RowKit
open Lm
attribute [local go_sem ↓] Go.wp_at_zero Go.wp_at_succ

theorem ib48 (w : World) : Calls Tryz.prog 40 #[.string ⟨#[48, 49, 50, 51, 52, 53, 54, 55, 56, 57, 97, 98, 99, 100, 101, 102, 103, 104, 105, 106, 107, 108, 109, 110, 111, 112, 113, 114, 115, 116, 117, 118, 119, 120, 121, 122]⟩, .int .u8 48] w fun e w' => e = .returned (.int .i64 0) ∧ w' = w :=
  Tryz.strings_IndexByte _ 48 w

theorem ib102 (w : World) : Calls Tryz.prog 40 #[.string ⟨#[48, 49, 50, 51, 52, 53, 54, 55, 56, 57, 97, 98, 99, 100, 101, 102, 103, 104, 105, 106, 107, 108, 109, 110, 111, 112, 113, 114, 115, 116, 117, 118, 119, 120, 121, 122]⟩, .int .u8 102] w fun e w' => e = .returned (.int .i64 15) ∧ w' = w :=
  Tryz.strings_IndexByte _ 102 w

theorem s0 (h : 0 < (ByteArray.mk #[48, 48, 102, 102]).size) : (ByteArray.mk #[48, 48, 102, 102])[0].toNat = 48 := rfl
theorem s1 (h : 1 < (ByteArray.mk #[48, 48, 102, 102]).size) : (ByteArray.mk #[48, 48, 102, 102])[1].toNat = 48 := rfl
theorem s2 (h : 2 < (ByteArray.mk #[48, 48, 102, 102]).size) : (ByteArray.mk #[48, 48, 102, 102])[2].toNat = 102 := rfl
theorem s3 (h : 3 < (ByteArray.mk #[48, 48, 102, 102]).size) : (ByteArray.mk #[48, 48, 102, 102])[3].toNat = 102 := rfl

attribute [local go_sem] s0 s1 s2 s3

theorem dig0
(gs : Nat) (w : World) (h : w.cell? ⟨gs, 0, none⟩ = some (.string ⟨#[48, 48, 102, 102]⟩)) :
    Calls Tryz.prog 39 #[.int .i64 0, .pointer (some ⟨gs, 0, none⟩)] w fun e w' => e = .returned (.int .i64 0) ∧ w' = w := by
  go_enter Tryz.func39, Tryz.ntmps39
  go_wp2_with fail
  refine (ib48 _).mono ?_
  rintro e wn ⟨rfl, hw⟩; rw [hw]; clear hw wn
  go_wp2
  go_ret
  exact ⟨rfl, rfl⟩

theorem dig1
(gs : Nat) (w : World) (h : w.cell? ⟨gs, 0, none⟩ = some (.string ⟨#[48, 48, 102, 102]⟩)) :
    Calls Tryz.prog 39 #[.int .i64 1, .pointer (some ⟨gs, 0, none⟩)] w fun e w' => e = .returned (.int .i64 0) ∧ w' = w := by
  go_enter Tryz.func39, Tryz.ntmps39
  go_wp2_with fail
  refine (ib48 _).mono ?_
  rintro e wn ⟨rfl, hw⟩; rw [hw]; clear hw wn
  go_wp2
  go_ret
  exact ⟨rfl, rfl⟩

theorem dig2
(gs : Nat) (w : World) (h : w.cell? ⟨gs, 0, none⟩ = some (.string ⟨#[48, 48, 102, 102]⟩)) :
    Calls Tryz.prog 39 #[.int .i64 2, .pointer (some ⟨gs, 0, none⟩)] w fun e w' => e = .returned (.int .i64 15) ∧ w' = w := by
  go_enter Tryz.func39, Tryz.ntmps39
  go_wp2_with fail
  refine (ib102 _).mono ?_
  rintro e wn ⟨rfl, hw⟩; rw [hw]; clear hw wn
  go_wp2
  go_ret
  exact ⟨rfl, rfl⟩

theorem dig3
(gs : Nat) (w : World) (h : w.cell? ⟨gs, 0, none⟩ = some (.string ⟨#[48, 48, 102, 102]⟩)) :
    Calls Tryz.prog 39 #[.int .i64 3, .pointer (some ⟨gs, 0, none⟩)] w fun e w' => e = .returned (.int .i64 15) ∧ w' = w := by
  go_enter Tryz.func39, Tryz.ntmps39
  go_wp2_with fail
  refine (ib102 _).mono ?_
  rintro e wn ⟨rfl, hw⟩; rw [hw]; clear hw wn
  go_wp2
  go_ret
  exact ⟨rfl, rfl⟩

theorem set_other5 {w : World} {g k g' k' : Nat} {u : Value} (h : g ≠ g') : (w.setCell ⟨g, k, none⟩ u).cell? ⟨g', k', none⟩ = w.cell? ⟨g', k', none⟩ := by
  simp only [World.cell?]
  rw [Below.heap_setCell _ _ _ _ (by exact Ne.symm h)]

set_option maxRecDepth 20000 in
set_option maxHeartbeats 1000000 in
theorem number16 (gs : Nat) (w : World) (hT : Tab w) (hs : w.cell? ⟨gs, 0, none⟩ = some (.string ⟨#[48, 48, 102, 102]⟩)) :
    Calls Tryz.prog 38 #[.int .i64 16, .int .i64 4, .func (.func 39) #[] #[.pointer (some ⟨gs, 0, none⟩)]] w fun e w' => (∃ v, e = .returned (.tuple #[v, .int .i64 0]) ∧ Ans w' w.heap.size v [255]) ∧ Below w.heap.size w w' := by
  obtain ⟨i0, hi, hz0, hz1, hz2⟩ := info_parts Tryz.infoB
  have HT := hide hT
  have hgs : gs < w.heap.size := by
    rcases Nat.lt_or_ge gs w.heap.size with h' | h'
    · exact h'
    · simp [World.cell?, Array.getElem?_eq_none h'] at hs
  have hso : ∀ (W : World) (k : Nat) (u : Value), (W.setCell ⟨w.heap.size, k, none⟩ u).cell? ⟨gs, 0, none⟩ = W.cell? ⟨gs, 0, none⟩ := fun W k u => set_other5 (by omega)
  clear hT
  go_enter Tryz.func38, Tryz.ntmps38
  go_wp2_with (at_make; refine wpList_make_full _ rfl _ _ 66 rfl w.heap.size 5 i0 (.int .u8 0) 1 Tryz.underlying66 hi hz0 hz1 .i64 .i64 _ _ 4 rfl rfl (by rfl) (by rfl) (by rw [hz2]; omega) (by unfold maxLen; omega) (Nat.le_refl _) ?_; intro w1 hown hgrow)
  have hb1 : Below w.heap.size w w1 := (Below.refl w.heap.size w).grown hgrow (Nat.le_refl _) (fun k hk => by cases hk)
  have hs1 := cell_up5 hb1 hs
  have k0 : w1.heap[w.heap.size]? = some (.cells #[.int .u8 0, .int .u8 0, .int .u8 0, .int .u8 0] 5) := made8 (n := 4) hown
  have hf : ∀ k, w1.frozen? ⟨w.heap.size, k, none⟩ = false := fun k => by simp [World.frozen?, k0]
  have c0 : w1.cell? ⟨w.heap.size, 0, none⟩ = some (.int .u8 0) := by simp [World.cell?, k0]
  have c1 : w1.cell? ⟨w.heap.size, 1, none⟩ = some (.int .u8 0) := by simp [World.cell?, k0]
  have c2 : w1.cell? ⟨w.heap.size, 2, none⟩ = some (.int .u8 0) := by simp [World.cell?, k0]
  have c3 : w1.cell? ⟨w.heap.size, 3, none⟩ = some (.int .u8 0) := by simp [World.cell?, k0]
  have HB1 := hide hb1
  have HK0 := hide k0
  clear hown hgrow hi hz0 hz1 hz2 hb1 k0 hs
  refine wp_loop_rounds 5 ?_
  have m0 := box_modify5 (k := 0) HK0.out (.int .u8 0)
  have m1 := box_modify5 (k := 1) m0 (.int .u8 0)
  have m2 := box_modify5 (k := 2) m1 (.int .u8 15)
  have m3 := box_modify5 (k := 3) m2 (.int .u8 15)
  obtain ⟨w5, hw5⟩ : ∃ w5, (((w1.setCell ⟨w.heap.size, 0, none⟩ (.int .u8 0)).setCell ⟨w.heap.size, 1, none⟩ (.int .u8 0)).setCell ⟨w.heap.size, 2, none⟩ (.int .u8 15)).setCell ⟨w.heap.size, 3, none⟩ (.int .u8 15) = w5 := ⟨_, rfl⟩
  rw [hw5] at m3
  have k5 : w5.heap[w.heap.size]? = some (.cells #[.int .u8 0, .int .u8 0, .int .u8 15, .int .u8 15] 5) := m3
  have x0 : w5.cell? ⟨w.heap.size, 0, none⟩ = some (.int .u8 0) := by simp [World.cell?, k5]
  have x1 : w5.cell? ⟨w.heap.size, 1, none⟩ = some (.int .u8 0) := by simp [World.cell?, k5]
  have x2 : w5.cell? ⟨w.heap.size, 2, none⟩ = some (.int .u8 15) := by simp [World.cell?, k5]
  rw [← hw5] at x0 x1 x2
  have HB5 := hide (show Below w.heap.size w w5 by
    rw [← hw5]
    exact (((HB1.out.setCell (p := ⟨w.heap.size, 0, none⟩) (Nat.le_refl _) _).setCell (p := ⟨w.heap.size, 1, none⟩) (Nat.le_refl _) _).setCell (p := ⟨w.heap.size, 2, none⟩) (Nat.le_refl _) _).setCell (p := ⟨w.heap.size, 3, none⟩) (Nat.le_refl _) _)
  have FR := read16 w.heap.size w5 (HT.out.below HB5.out) k5
  have HW5 := hide hw5
  clear m0 m1 m2 m3 k5 hw5
  rw [rounds_succ]
  go_wp2_with fail
  refine (dig0 gs w1 hs1).mono ?_
  rintro e wn ⟨rfl, hw⟩; rw [hw]; clear hw wn
  go_wp2
  rw [rounds_succ]
  go_wp2_with fail
  refine (dig1 gs _ (by rw [hso]; exact hs1)).mono ?_
  rintro e wn ⟨rfl, hw⟩; rw [hw]; clear hw wn
  go_wp2
  rw [rounds_succ]
  go_wp2_with fail
  refine (dig2 gs _ (by rw [hso, hso]; exact hs1)).mono ?_
  rintro e wn ⟨rfl, hw⟩; rw [hw]; clear hw wn
  go_wp2
  rw [rounds_succ]
  go_wp2_with fail
  refine (dig3 gs _ (by rw [hso, hso, hso]; exact hs1)).mono ?_
  rintro e wn ⟨rfl, hw⟩; rw [hw]; clear hw wn
  go_wp2
  rw [rounds_succ]
  go_wp2
  refine wp_loop_rounds 3 ?_
  rw [rounds_succ]
  go_wp2
  rw [rounds_succ]
  go_wp2
  rw [rounds_succ]
  go_wp2_with fail
  rw [HW5.out]
  refine FR.mono ?_
  rintro e w6 ⟨⟨v, rfl, hA⟩, hb6⟩
  have HL := length_val v [255] w6 (hA.arg (by simp))
  rw [show blen (val [255]) = 8 from rfl] at HL
  have HD := hide (And.intro (hA.base HB5.out.size) (HB5.out.trans (hb6.mono HB5.out.size)))
  clear FR hA hb6 x0 x1 x2 hs1 c0 c1 c2 c3 hf
  go_wp2_with fail
  refine HL.mono ?_
  rintro e wn ⟨rfl, hw⟩; rw [hw]; clear hw wn HL
  go_wp2
  go_returns
  exact ⟨⟨v, rfl, HD.out.1⟩, HD.out.2⟩

theorem parse16 (w : World) (hT : Tab w) :
    Calls Tryz.prog 19 #[.string ⟨#[48, 48, 102, 102]⟩, .int .i64 16] w fun e w' => (∃ v, e = .returned (.tuple #[v, .int .i64 0]) ∧ Ans w' w.heap.size v [255]) ∧ Below w.heap.size w w' := by
  obtain ⟨w0, hw0⟩ : ∃ w0, w.alloc (.cells #[.string ⟨#[48, 48, 102, 102]⟩] 9) = w0 := ⟨_, rfl⟩
  have hb0 : Below w.heap.size w w0 := by rw [← hw0]; exact below_one5 _ _
  have cs : w0.cell? ⟨w.heap.size, 0, none⟩ = some (.string ⟨#[48, 48, 102, 102]⟩) := box_one (by rw [← hw0]; exact heap_alloc_new ..)
  have HI := isBase16 w0
  have FN := number16 w.heap.size w0 (hT.below hb0) cs
  have HW0 := hide hw0
  have HB0 := hide hb0
  clear hT hw0 hb0
  go_enter Tryz.func19, Tryz.ntmps19
  go_wp2_with fail
  rw [HW0.out]
  refine HI.mono ?_
  rintro e wn ⟨rfl, hw⟩; rw [hw]; clear hw wn HI
  go_wp2_with fail
  refine FN.mono ?_
  rintro e w1 ⟨⟨v, rfl, hA⟩, hb1⟩
  have HD := hide (And.intro (hA.base HB0.out.size) (HB0.out.trans (hb1.mono HB0.out.size)))
  clear FN hA hb1
  go_wp2
  go_returns
  exact ⟨⟨v, rfl, HD.out.1⟩, HD.out.2⟩

end Go.Proofs.YthjgmijbjplcoaaGreatDoor

/- The example of the laws of layer 5. -/
namespace Go.Proofs.YthjgmijbjplcoaaGreatDoor
open Go.RowKit
open Lm
attribute [local go_sem ↓] Go.wp_at_zero Go.wp_at_succ

theorem arg_one5 (w : World) (z : Nat) (hz : z < 18446744073709551616) : Arg (w.alloc (.cells #[.int .u64 (z : Int)] 62)) (.slice (some ⟨w.heap.size, 0, none⟩) 1 1) [z] := by
  have hb : Blk (w.alloc (.cells #[.int .u64 (z : Int)] 62)) w.heap.size [z] := by
    unfold Blk
    rw [heap_alloc_new]
    rfl
  exact ⟨⟨_, _, rfl, Nat.le_refl _, by simp, .inr ⟨_, 0, rfl, fun k hk => by rw [Nat.zero_add]; exact hb.cell k hk⟩⟩, by intro y hy; simp at hy; omega, by simp, fun n c e => by cases e⟩

set_option maxHeartbeats 1000000 in
theorem lives5_any (w : World) (hT : Tab w) : Calls Tryz.prog 9 #[] w fun e w' => e = .returned (.bool true) ∧ Below w.heap.size w w' := by
  obtain ⟨w0, hw0⟩ : ∃ w0, w.alloc (.cells #[.int .u64 255] 62) = w0 := ⟨_, rfl⟩
  have hb0 : Below w.heap.size w w0 := by rw [← hw0]; exact below_one5 _ _
  have hA : Arg w0 (.slice (some ⟨w.heap.size, 0, none⟩) 1 1) [255] := by
    rw [← hw0]
    exact arg_one5 w 255 (by omega)
  have FP := print16 _ [255] w0 hA (hT.below hb0) (by decide) rfl
  have HW0 := hide hw0
  have HB0 := hide hb0
  have HT := hide hT
  clear hT hw0 hb0 hA
  go_enter Tryz.func9, Tryz.ntmps9
  go_wp2_with fail
  rw [HW0.out]
  refine FP.mono ?_
  rintro e w1 ⟨rfl, hb1⟩
  have HB1 := hid_below HB0 hb1
  have FR := parse16 w1 (HT.out.below HB1.out)
  clear FP hb1
  go_wp2_with fail
  refine FR.mono ?_
  rintro e w2 ⟨⟨v, rfl, hA⟩, hb2⟩
  have HB2 := hid_below HB1 hb2
  obtain ⟨ao, n, cap, rfl⟩ := hA.slice
  have hn : n = 1 := by
    rcases hA.form with ⟨_, e⟩ | ⟨g, c, e, _⟩
    · cases e
    · injection e
  subst hn
  obtain ⟨w3, hw3⟩ : ∃ w3, w2.alloc (.cells #[.int .u64 255] 62) = w3 := ⟨_, rfl⟩
  have hb3 : Below w2.heap.size w2 w3 := by rw [← hw3]; exact below_one5 _ _
  have hA3 : Arg w3 (.slice (some ⟨w2.heap.size, 0, none⟩) 1 1) [255] := by
    rw [← hw3]
    exact arg_one5 w2 255 (by omega)
  have FC := compare_any _ _ [255] [255] w3 ((hA.below hb3).arg (by simp)) hA3
  rw [cmpN_self] at FC
  have HB3 := hid_below HB2 hb3
  have HW3 := hide hw3
  clear FR hA hb2 hb3 hw3 hA3
  go_wp2_with fail
  rw [HW3.out]
  refine FC.mono ?_
  rintro e w4 ⟨rfl, hsm⟩
  have HB4 := hid_below HB3 (hsm.below w3.heap.size)
  clear FC hsm
  go_wp2
  go_ret
  exact ⟨rfl, HB4.out⟩

end Go.Proofs.YthjgmijbjplcoaaGreatDoor
