/- The reference's test of new memory: the state of its lists. -/
import Derived.Test.YtppkhhbhnhijpaaGreatDoorQG
import Derived.Maps.AppendAt
namespace Go.Proofs.YtppkhhbhnhijpaaGreatDoor
open Go.RowKit
open Lm

abbrev nilV : Value := .slice none 0 0

/-- One row turned. -/
def upd (rows : Nat → List Nat) (i : Nat) (r : List Nat) : Nat → List Nat := fun m => if m = i then r else rows m

theorem upd_same (rows : Nat → List Nat) (i : Nat) (r : List Nat) : upd rows i r i = r := by simp [upd]
theorem upd_other (rows : Nat → List Nat) (i m : Nat) (r : List Nat) (h : m ≠ i) : upd rows i r m = rows m := by simp [upd, h]

/-- Lists that lie apart from each other, and the list of them. -/
structure St (w : World) (base L : Nat) (vs : List Value) (rows : Nat → List Nat) : Prop where
  list : w.heap[L]? = some (.cells vs.toArray 22 (0, 0))
  row : ∀ i, i < vs.length → Ans w base (vs.getD i nilV) (rows i)
  apart : ∀ i j, i < vs.length → j < vs.length → i ≠ j → (vs.getD i nilV).ownBlock = none ∨ (vs.getD i nilV).ownBlock ≠ (vs.getD j nilV).ownBlock

theorem St.cell {w : World} {base L : Nat} {vs : List Value} {rows : Nat → List Nat} (h : St w base L vs rows) (i : Nat) (hi : i < vs.length) : w.cell? ⟨L, i, none⟩ = some (vs.getD i nilV) := by
  simp [World.cell?, h.list, hi, List.getD]

theorem St.free {w : World} {base L : Nat} {vs : List Value} {rows : Nat → List Nat} (h : St w base L vs rows) (i : Nat) : w.frozen? ⟨L, i, none⟩ = false := by
  simp [World.frozen?, h.list]

theorem Ans.ne {w : World} {base L : Nat} {v : Value} {zs : List Nat} {vs : Array Value} (h : Ans w base v zs) (hl : w.heap[L]? = some (.cells vs 22 (0, 0))) : v.ownBlock ≠ some L := by
  obtain ⟨_, h2⟩ := h.own
  rcases h2 with ⟨rfl, _⟩ | ⟨g, cap, cur, rfl, _, hh, _⟩
  · simp [Value.ownBlock]
  · intro e
    simp [Value.ownBlock] at e
    subst e
    rw [hl] at hh
    simp at hh

theorem Ans.stored {w : World} {base g cap : Nat} {zs : List Nat} (h : Ans w base (.slice (some ⟨g, 0, none⟩) zs.length cap) zs) (j z : Nat) (hz : z < 18446744073709551616) : Ans (w.setCell ⟨g, j, none⟩ (.int .u64 (z : Int))) base (.slice (some ⟨g, 0, none⟩) (zs.set j z).length cap) (zs.set j z) := by
  refine ⟨?_, limbs_set h.limbs _ _ hz⟩
  have := (h.own.stored j (.int .u64 (z : Int))).1
  rw [List.length_set, List.map_set]
  exact this

theorem St.store {w : World} {base L : Nat} {vs : List Value} {rows : Nat → List Nat} (h : St w base L vs rows) (i g cap : Nat) (hi : i < vs.length) (hv : vs.getD i nilV = .slice (some ⟨g, 0, none⟩) (rows i).length cap) (j z : Nat) (hz : z < 18446744073709551616) :
    St (w.setCell ⟨g, j, none⟩ (.int .u64 (z : Int))) base L vs (upd rows i ((rows i).set j z)) := by
  have hri := h.row i hi
  have hne := hri.ne h.list
  rw [hv] at hne
  have hgL : L ≠ g := fun e => hne (by simp [Value.ownBlock, e])
  refine ⟨?_, fun m hm => ?_, h.apart⟩
  · rw [Below.heap_setCell _ _ _ _ hgL]; exact h.list
  · by_cases e : m = i
    · subst e
      rw [upd_same, hv]
      rw [hv] at hri
      have := hri.stored j z hz
      rw [List.length_set] at this
      exact this
    · rw [upd_other _ _ _ _ e]
      refine ⟨ownsRow_setCell_other (h.row m hm).own ?_ _, (h.row m hm).limbs⟩
      have := h.apart m i hm hi e
      rw [hv] at this
      rcases this with h1 | h1
      · rw [h1]; simp
      · simpa [Value.ownBlock] using h1

theorem fill_set (r : List Nat) (j c : Nat) (h : j < r.length) : (List.replicate j c ++ r.drop j).set j c = List.replicate (j + 1) c ++ r.drop (j + 1) := by
  rw [List.drop_eq_getElem_cons h]
  have := set_mid (List.replicate j c) (r.drop (j + 1)) r[j] c
  rw [List.length_replicate] at this
  rw [this, ← List.replicate_succ']

theorem fill_length (r : List Nat) (j c : Nat) (h : j ≤ r.length) : (List.replicate j c ++ r.drop j).length = r.length := by
  simp; omega

end Go.Proofs.YtppkhhbhnhijpaaGreatDoor

/- The reference's test of new memory: lists that lie apart can be written over and grow. -/
namespace Go.Proofs.YtppkhhbhnhijpaaGreatDoor
open Go.RowKit
open Lm

def five (b : Nat) : List Nat := [b, b + 1, b + 2, b + 3, b + 4]

theorem St.grow {w w2 : World} {base L : Nat} {vs : List Value} {rows : Nat → List Nat} (h : St w base L vs rows) (k : Nat) (hk : k < vs.length) (o : Obj) (v' : Value) (r : List Nat)
    (ho : w2.ownsRow base 108 1 v' r.length (r.map lv)) (hl : Limbs r) (hg : (w.alloc o).grownBy w2 (vs.getD k nilV).ownBlock) (hat : v'.ownBlock = (vs.getD k nilV).ownBlock ∨ v'.ownBlock = some (w.alloc o).heap.size) :
    St (w2.setCell ⟨L, k, none⟩ v') base L (vs.set k v') (upd rows k r) := by
  have hL := lt_of_block h.list
  have hsz : (w.alloc o).heap.size = w.heap.size + 1 := by simp
  have hneL := (h.row k hk).ne h.list
  have hL2 : w2.heap[L]? = some (.cells vs.toArray 22 (0, 0)) := by
    have e1 : (w.alloc o).heap[L]? = w.heap[L]? := Below.heap_alloc w o L hL
    rw [hg.block L (by omega) (fun e => hneL e.symm), e1]; exact h.list
  have hneL' : v'.ownBlock ≠ some L := by
    rcases hat with e | e
    · rw [e]; exact hneL
    · rw [e]; intro e2; simp at e2; omega
  refine ⟨?_, fun m hm => ?_, fun i j hi hj hij => ?_⟩
  · have hlt := lt_of_block hL2
    have h' : w2.heap[L] = .cells vs.toArray 22 (0, 0) := by simpa [Array.getElem?_eq_getElem hlt] using hL2
    show (w2.heap.modify L _)[L]? = _
    rw [Array.getElem?_eq_getElem (by simpa using hlt), Array.getElem_modify_self, h']
    simp
  · rw [List.length_set] at hm
    by_cases e : m = k
    · subst e
      have ev : (vs.set m v').getD m nilV = v' := by simp [List.getD, hm]
      rw [upd_same, ev]
      exact ⟨ownsRow_setCell_other ho hneL' _, hl⟩
    · have ev : (vs.set k v').getD m nilV = vs.getD m nilV := by
        simp [List.getD, List.getElem?_set_ne (Ne.symm e)]
      rw [upd_other _ _ _ _ e, ev]
      have hr := h.row m hm
      refine ⟨ownsRow_setCell_other (((hr.own).alloc o).kept hg ?_) (hr.ne h.list) _, hr.limbs⟩
      exact h.apart m k hm hk e
  · rw [List.length_set] at hi hj
    have hlt : ∀ m, m < vs.length → ∀ g, (vs.getD m nilV).ownBlock = some g → g < w.heap.size := fun m hm g hg => ((h.row m hm).own.lt g hg).2
    by_cases e1 : i = k
    · subst e1
      have ev : (vs.set i v').getD i nilV = v' := by simp [List.getD, hi]
      have ev2 : (vs.set i v').getD j nilV = vs.getD j nilV := by simp [List.getD, List.getElem?_set_ne hij]
      rw [ev, ev2]
      rcases hat with e | e
      · rw [e]; exact h.apart i j hi hj hij
      · right
        rw [e]
        intro e2
        have := hlt j hj _ e2.symm
        omega
    · by_cases e2 : j = k
      · subst e2
        have ev : (vs.set j v').getD j nilV = v' := by simp [List.getD, hj]
        have ev2 : (vs.set j v').getD i nilV = vs.getD i nilV := by simp [List.getD, List.getElem?_set_ne (Ne.symm e1)]
        rw [ev, ev2]
        rcases hat with e | e
        · rw [e]; exact h.apart i j hi hj hij
        · right
          rw [e]
          intro e3
          have := hlt i hi _ e3
          omega
      · have ev : (vs.set k v').getD i nilV = vs.getD i nilV := by simp [List.getD, List.getElem?_set_ne (Ne.symm e1)]
        have ev2 : (vs.set k v').getD j nilV = vs.getD j nilV := by simp [List.getD, List.getElem?_set_ne (Ne.symm e2)]
        rw [ev, ev2]
        exact h.apart i j hi hj hij

theorem St.congr {w : World} {base L : Nat} {vs : List Value} {rows rows' : Nat → List Nat} (h : St w base L vs rows) (he : ∀ i, i < vs.length → rows i = rows' i) : St w base L vs rows' :=
  ⟨h.list, fun i hi => by rw [← he i hi]; exact h.row i hi, h.apart⟩

/-- What the first loop leaves. -/
def over (rows : Nat → List Nat) (m : Nat) : List Nat := List.replicate (rows m).length (m % 251 + 1)

end Go.Proofs.YtppkhhbhnhijpaaGreatDoor

/- The reference's test of new memory: its walk. -/
namespace Go.Proofs.YtppkhhbhnhijpaaGreatDoor
open Go.RowKit
open Lm

/-- What the first loop leaves when k lists are done. -/
def overTo (rows : Nat → List Nat) (k m : Nat) : List Nat := if m < k then over rows m else rows m

theorem overTo_step (rows : Nat → List Nat) (k m : Nat) (h : m ≠ k) : overTo rows k m = overTo rows (k + 1) m := by
  unfold overTo
  by_cases h1 : m < k
  · rw [if_pos h1, if_pos (by omega)]
  · rw [if_neg h1, if_neg (by omega)]

theorem row_limbs (rows : Nat → List Nat) (k : Nat) (hk : k ≤ 1000) : Limbs (over rows k ++ five (300 + 5 * k)) := by
  intro z hz
  rcases List.mem_append.1 hz with h | h
  · have := List.eq_of_mem_replicate h
    omega
  · simp only [five, List.mem_cons, List.not_mem_nil, or_false] at h
    omega

theorem row_low (rows : Nat → List Nat) (k j : Nat) (h : j < (rows k).length) : (over rows k ++ five (300 + 5 * k)).getD j 0 = k % 251 + 1 := by
  have hl : j < (over rows k).length := by simpa [over] using h
  rw [List.getD, List.getElem?_append_left hl]
  simp [over, h]

theorem row_high (rows : Nat → List Nat) (k j : Nat) (h : (rows k).length ≤ j) (h2 : j < (rows k).length + 5) : (over rows k ++ five (300 + 5 * k)).getD j 0 = 300 + 5 * k + (j - (rows k).length) := by
  obtain ⟨i, rfl⟩ : ∃ i, j = (rows k).length + i := ⟨j - (rows k).length, by omega⟩
  have hl : (over rows k).length ≤ (rows k).length + i := by simp [over]
  rw [List.getD, List.getElem?_append_right hl]
  match i, show i < 5 by omega with
  | 0, _ => simp [over, five]
  | 1, _ => simp [over, five]
  | 2, _ => simp [over, five]
  | 3, _ => simp [over, five]
  | 4, _ => simp [over, five]

theorem own_shape {w : World} {base e n : Nat} {v : Value} {xs : List Value} (h : w.ownsRow base e 1 v n xs) (hn : 0 < n) : ∃ g cap, v = .slice (some ⟨g, 0, none⟩) n cap := by
  rcases h.2 with ⟨_, h0⟩ | ⟨g, cap, _, hv, _⟩
  · omega
  · exact ⟨g, cap, hv⟩

theorem St.kept {w w2 : World} {base L : Nat} {vs : List Value} {rows : Nat → List Nat} {v : Value} (h : St w base L vs rows) (k : Nat) (hk : k < vs.length) (hv : vs.getD k nilV = v) (o : Obj) (hg : (w.alloc o).grownBy w2 v.ownBlock) :
    w2.cell? ⟨L, k, none⟩ = some v ∧ w2.frozen? ⟨L, k, none⟩ = false := by
  have hL := lt_of_block h.list
  have hneL := (h.row k hk).ne h.list
  rw [hv] at hneL
  have hsz : (w.alloc o).heap.size = w.heap.size + 1 := by simp
  have e : w2.heap[L]? = w.heap[L]? := by
    rw [hg.block L (by omega) (fun e => hneL e.symm)]; exact Below.heap_alloc w o L hL
  refine ⟨?_, ?_⟩
  · rw [World.cell?_of_block (w := w) (a := ⟨L, k, none⟩) e, h.cell k hk, hv]
  · rw [World.frozen?_of_block (w := w) (a := ⟨L, k, none⟩) e]; exact h.free k

set_option maxHeartbeats 1000000 in
theorem own_any (L base : Nat) (vs : List Value) (rows : Nat → List Nat) (w : World) (h : St w base L vs rows) (hn : vs.length ≤ 1000) (hl : ∀ i, i < vs.length → (rows i).length ≤ 17592186044000) (hb : base ≤ L) :
    Calls Tryz.prog 46 #[.slice (some ⟨L, 0, none⟩) vs.length vs.length] w fun e w' => e = .returned (.bool true) ∧ Below base w w' := by
  go_enter Tryz.func46, Tryz.ntmps46
  go_wp2
  go_loopw [15] (fun i wr => ∃ k : Nat, k ≤ vs.length ∧ i = .int .i64 k ∧ St wr base L vs (overTo rows k) ∧ Below base w wr) (fun i _ => vs.length - (intOf i).toNat)
  case atStart => exact ⟨0, Nat.zero_le _, rfl, h.congr (fun i _ => by simp [overTo]), Below.refl _ _⟩
  case round =>
    obtain ⟨k, hk, rfl, hst, hbl⟩ := hrel
    by_cases hkl : k < vs.length
    · have hck := hst.cell k hkl
      have hrow := hst.row k hkl
      have hrk : overTo rows k k = rows k := by simp [overTo]
      rw [hrk] at hrow
      have hlk := hl k hkl
      have ec : (k : Int) % 251 + 1 = ((k % 251 + 1 : Nat) : Int) := by omega
      have bc : k % 251 + 1 < 18446744073709551616 := by omega
      have HRK := hide hrk
      have HOV : Hid (over rows k = List.replicate (rows k).length (k % 251 + 1)) := rfl
      have HST := hide hst
      have HBL := hide hbl
      generalize k % 251 + 1 = c at *
      clear hst hbl hrk h
      rcases hrow.form with ⟨hv, hz⟩ | ⟨g, cap, hv, hg1, hg2, hcap, hmax, _, _⟩
      · rw [hv] at hck
        have HZ := hide hz
        clear hrow hv hz
        go_wp2
        refine wp_loop_rounds 1 ?_
        rw [rounds_succ]
        go_wp2
        go_roundw
        case rel =>
          refine ⟨k + 1, by omega, by go_num, HST.out.congr (fun m _ => ?_), HBL.out⟩
          by_cases e : m = k
          · subst e
            rw [HRK.out]
            simp [overTo, over, HZ.out]
          · exact overTo_step rows k m e
        case measure => simp [intOf]; omega
      · rw [hv] at hck
        go_wp2
        go_loopw [22] (fun i wr => ∃ j : Nat, j ≤ (rows k).length ∧ i = .int .i64 j ∧ St wr base L vs (upd (overTo rows k) k (List.replicate j c ++ (rows k).drop j)) ∧ Below base w wr) (fun i _ => (rows k).length - (intOf i).toNat)
        case atStart =>
          refine ⟨0, Nat.zero_le _, rfl, HST.out.congr (fun m _ => ?_), HBL.out⟩
          by_cases e : m = k
          · subst e; rw [HRK.out, upd_same]; simp
          · rw [upd_other _ _ _ _ e]
        case round =>
          obtain ⟨j, hj, rfl, hst, hbl⟩ := hrel
          clear HST HBL
          by_cases hjl : j < (rows k).length
          · have hr2 := hst.row k hkl
            rw [upd_same] at hr2
            have hfl := fill_length (rows k) j c hj
            rcases hr2.form with ⟨hv2, _⟩ | ⟨g', cap', hv2, hg1', hg2', _, _, hfr', hcl'⟩
            · rw [hv2] at hv; cases hv
            · have hgg : g' = g := by rw [hv2] at hv; simp only [Value.slice.injEq, Option.some.injEq, Addr.mk.injEq] at hv; exact hv.1.1
              subst hgg
              have hfr := hfr' j
              have hco := hcl' j (by omega)
              have hst2 := hst.store k g' cap' hkl (by rw [upd_same]; exact hv2) j c bc
              rw [upd_same, fill_set (rows k) j c hjl] at hst2
              have HS := hide hst2
              have HL := hide (hbl.setCell (p := ⟨g', j, none⟩) hg1' (.int .u64 (c : Int)))
              generalize (List.replicate j c ++ (rows k).drop j).getD j 0 = o at *
              clear hst hbl hst2 hr2 hv2 hfr' hcl' hrow hv hck hfl
              go_wp2
              go_roundw
              case rel =>
                refine ⟨j + 1, by omega, by go_num, HS.out.congr (fun m _ => ?_), HL.out⟩
                by_cases e : m = k
                · subst e; rw [upd_same, upd_same]
                · rw [upd_other _ _ _ _ e, upd_other _ _ _ _ e, upd_other _ _ _ _ e]
              case measure => simp [intOf]; omega
          · have ej : j = (rows k).length := by omega
            subst ej
            have HS := hide hst
            have HL := hide hbl
            clear hst hbl hrow hv hck
            go_wp2
            go_roundw
            case rel =>
              refine ⟨k + 1, by omega, by go_num, HS.out.congr (fun m _ => ?_), HL.out⟩
              by_cases e : m = k
              · subst e
                rw [upd_same]
                have : overTo rows (m + 1) m = over rows m := by simp [overTo]
                rw [this, HOV.out]; simp
              · rw [upd_other _ _ _ _ e]; exact overTo_step rows k m e
            case measure => simp [intOf]; omega
    · have ek : k = vs.length := by omega
      subst ek
      have hst3 : St wr base L vs (over rows) := hst.congr (fun m hm => by simp [overTo, hm])
      have HST := hide hst3
      have HBL := hide hbl
      clear hst hbl hst3 h
      obtain ⟨i0, hi, hz0, hz1, hz2⟩ := info_parts Tryz.infoU
      go_wp2
      go_loopw [36] (fun i wr => ∃ (k : Nat) (us : List Value), k ≤ vs.length ∧ us.length = vs.length ∧ i = .int .i64 k ∧ St wr base L us (fun m => if m < k then over rows m ++ five (300 + 5 * m) else over rows m) ∧ Below base w wr) (fun i _ => vs.length - (intOf i).toNat)
      case atStart => exact ⟨0, vs, Nat.zero_le _, rfl, rfl, HST.out.congr (fun m _ => by simp), HBL.out⟩
      case round =>
        obtain ⟨k, us, hk', hus, rfl, hst, hbl⟩ := hrel
        clear HST HBL
        by_cases hkl' : k < vs.length
        · have hku : k < us.length := by omega
          have hck := hst.cell k hku
          have hrow := hst.row k hku
          simp only [Nat.lt_irrefl, if_false] at hrow
          have hfr := hst.free k
          have hlen : (over rows k).length ≤ 17592186044000 := by unfold over; rw [List.length_replicate]; exact hl k hkl'
          have eb : (300 : Int) + 5 * (k : Int) = ((300 + 5 * k : Nat) : Int) := by omega
          have HST := hide hst
          have HBL := hide hbl
          have HV := hide (rfl : us.getD k nilV = us.getD k nilV)
          have HB5 : Hid (300 + 5 * k < 6000) := by unfold Hid; omega
          obtain ⟨bb, hbb⟩ : ∃ bb, bb = 300 + 5 * k := ⟨_, rfl⟩
          rw [← hbb] at eb
          have hb6 : bb < 6000 := by omega
          have HBB := hide hbb
          generalize hv : us.getD k nilV = v at *
          have HVV := hide hv
          obtain ⟨b1, h1⟩ : ∃ b1, b1 = bb + 1 := ⟨_, rfl⟩
          obtain ⟨b2, h2⟩ : ∃ b2, b2 = bb + 2 := ⟨_, rfl⟩
          obtain ⟨b3, h3⟩ : ∃ b3, b3 = bb + 3 := ⟨_, rfl⟩
          obtain ⟨b4, h4⟩ : ∃ b4, b4 = bb + 4 := ⟨_, rfl⟩
          have g1 : (bb : Int) + 1 = (b1 : Int) := by omega
          have g2 : (bb : Int) + 2 = (b2 : Int) := by omega
          have g3 : (bb : Int) + 3 = (b3 : Int) := by omega
          have g4 : (bb : Int) + 4 = (b4 : Int) := by omega
          have q1 : b1 < 18446744073709551616 := by omega
          have q2 : b2 < 18446744073709551616 := by omega
          have q3 : b3 < 18446744073709551616 := by omega
          have q4 : b4 < 18446744073709551616 := by omega
          have H5 : Hid ([bb, b1, b2, b3, b4] = five (300 + 5 * k)) := hide (by rw [h1, h2, h3, h4, hbb]; rfl)
          clear hst hbl hv hbb HV h1 h2 h3 h4
          go_wp2_with (at_builtin; refine wpList_append_own_at _ rfl _ _ 22 rfl base 108 i0 (.int .u64 0) 1 8 Tryz.underlying22 hi hz0 hz1 hz2 rfl (by decide) v (over rows k).length _ rfl (hrow.own.alloc _) ⟨wr.heap.size, 0, none⟩ 5 5 ([bb, b1, b2, b3, b4].map lv) rfl rfl (news_cells [bb, b1, b2, b3, b4]) (lv_oneCell _) (by unfold maxLen; omega) (by omega) (by have := lt_of_block HST.out.list; simp; omega) ?_; intro v' w2 hown2 hgrow2 _ hat2; have hkp := HST.out.kept k hku HVV.out _ hgrow2; have hck2 := hkp.1; have hfr2 := hkp.2; clear hkp; obtain ⟨g5, cap5, hv5⟩ := own_shape hown2 (by omega); subst hv5; have HO := hide hown2; have HG := hide hgrow2; have HAT := hide hat2; clear hown2 hgrow2 hat2)
          go_roundw
          case rel =>
            refine ⟨k + 1, us.set k _, by omega, by rw [List.length_set]; exact hus, by go_num, (HST.out.grow k hku _ _ (over rows k ++ five (300 + 5 * k)) ?_ ?_ (by rw [HVV.out]; exact HG.out) (by rw [HVV.out]; exact HAT.out)).congr (fun m _ => ?_), ?_⟩
            · rw [← H5.out, List.length_append, List.map_append]; exact HO.out
            · exact row_limbs rows k (by omega)
            · by_cases e : m = k
              · subst e; rw [upd_same]; simp
              · rw [upd_other _ _ _ _ e]
                by_cases h1 : m < k
                · rw [if_pos h1, if_pos (by omega)]
                · rw [if_neg h1, if_neg (by omega)]
            · have hLs := lt_of_block HST.out.list
              exact ((HBL.out.alloc (by omega) _).grown HG.out (by simp; omega) (fun g hg => (hrow.own.lt g hg).1)).setCell hb _
          case measure => simp [intOf]; omega
        · have ek : k = vs.length := by omega
          subst ek
          have hst4 : St wr base L us (fun m => over rows m ++ five (300 + 5 * m)) := hst.congr (fun m hm => by simp [show m < vs.length by omega])
          have HST := hide hst4
          have HBL := hide hbl
          clear hst hbl hst4 hi hz0 hz1 hz2
          go_wp2
          go_loop [64] (fun i => ∃ k : Nat, k ≤ vs.length ∧ i = .int .i64 k) (fun i => vs.length - (intOf i).toNat)
          case atStart => exact ⟨0, Nat.zero_le _, rfl⟩
          case round =>
            obtain ⟨k, hk4, rfl⟩ := hrel
            by_cases hkl4 : k < vs.length
            · have hku : k < us.length := by omega
              have hck := HST.out.cell k hku
              have hrow := HST.out.row k hku
              have hlr : (over rows k ++ five (300 + 5 * k)).length = (rows k).length + 5 := by simp [over, five]
              rcases hrow.form with ⟨_, h0⟩ | ⟨g, cap, hv, _, _, hgl, hgm, _, hgc⟩
              · rw [h0] at hlr; simp at hlr
              · rw [hlr] at hv hgl hgc
                rw [hv] at hck
                have hzl := hl k hkl4
                have HGC := hide hgc
                clear hrow hgc hv hlr
                go_wp2
                go_loop [71] (fun i => ∃ j : Nat, j ≤ (rows k).length + 5 ∧ i = .int .i64 j) (fun i => (rows k).length + 5 - (intOf i).toNat)
                case atStart => exact ⟨0, Nat.zero_le _, rfl⟩
                case round =>
                  obtain ⟨j, hj, rfl⟩ := hrel
                  by_cases hjl : j < (rows k).length + 5
                  · have hcj := HGC.out j hjl
                    by_cases hj2 : j < (rows k).length
                    · rw [row_low rows k j hj2] at hcj
                      have ec : (k : Int) % 251 + 1 = ((k % 251 + 1 : Nat) : Int) := by omega
                      have bc : k % 251 + 1 < 18446744073709551616 := by omega
                      generalize k % 251 + 1 = c at *
                      have hne : ((c : Int) != (c : Int)) = false := by simp
                      have i1 : (j : Int) < ((rows k).length : Int) := by omega
                      have hd2 : decide (((rows k).length : Int) ≤ (j : Int)) = false := decide_eq_false (by omega)
                      generalize (rows k).length = zl at *
                      go_wp2
                      go_round
                      case rel => exact ⟨j + 1, by omega, by go_num⟩
                      case measure => simp [intOf]; omega
                    · rw [row_high rows k j (by omega) hjl] at hcj
                      have hd1 : decide ((j : Int) < ((rows k).length : Int)) = false := decide_eq_false (by omega)
                      have i1 : ((rows k).length : Int) ≤ (j : Int) := by omega
                      generalize (rows k).length = zl at *
                      obtain ⟨t, ht⟩ : ∃ t, t = 300 + 5 * k + (j - zl) := ⟨_, rfl⟩
                      rw [← ht] at hcj
                      have et : (300 : Int) + 5 * (k : Int) + (j : Int) - ((zl : Int) + 5) + 5 = (t : Int) := by omega
                      have bt : t < 18446744073709551616 := by omega
                      have hne : ((t : Int) != (t : Int)) = false := by simp
                      have HT := hide ht
                      clear ht
                      go_wp2
                      go_round
                      case rel => exact ⟨j + 1, by omega, by go_num⟩
                      case measure => simp [intOf]; omega
                  · go_wp2
                    go_round
                    case rel => exact ⟨k + 1, by omega, by go_num⟩
                    case measure => simp [intOf]; omega
            · go_wp2
              go_ret
              exact ⟨rfl, HBL.out⟩

end Go.Proofs.YtppkhhbhnhijpaaGreatDoor

/- Own, of answers that were made one after another; Lend and Kept, as the laws use them. -/
namespace Go.Proofs.YtppkhhbhnhijpaaGreatDoor
open Go.RowKit
open Lm

/-- Answers one after another: each one's block lies below those of the later ones. -/
def Chain (w : World) : Nat → List Value → List (List Nat) → Prop
  | _, [], [] => True
  | b, v :: vs, r :: rs => ∃ b', (b ≤ b' ∧ b' ≤ w.heap.size) ∧ Ans w b v r ∧ (∀ g, v.ownBlock = some g → g < b') ∧ Chain w b' vs rs
  | _, _, _ => False

theorem Ans.top {w : World} {base : Nat} {v : Value} {zs : List Nat} (h : Ans w base v zs) : ∀ g, v.ownBlock = some g → g < w.heap.size := fun g hg => (h.own.lt g hg).2

theorem Ans.slice {w : World} {base : Nat} {v : Value} {zs : List Nat} (h : Ans w base v zs) : ∃ ao n cap, v = .slice ao n cap := by
  rcases h.form with ⟨rfl, _⟩ | ⟨g, cap, rfl, _⟩
  · exact ⟨_, _, _, rfl⟩
  · exact ⟨_, _, _, rfl⟩

theorem blen_val_le (zs : List Nat) (h : Limbs zs) : blen (val zs) ≤ 64 * zs.length := by
  rw [blen_le_iff, Nat.mul_comm]
  have := val_lt h
  rwa [W_pow] at this

theorem hid_below {w a b : World} (h : Hid (Below w.heap.size w a)) (hb : Below a.heap.size a b) : Hid (Below w.heap.size w b) := h.out.trans (hb.mono h.out.size)

theorem Same.top {a b : World} (h : Same a b) : Below a.heap.size a b := h.below _

theorem Arg.bits {w : World} {v : Value} {zs : List Nat} (h : Arg w v zs) (hf : zs.length ≤ 17592186043904) : blen (val zs) ≤ 1125899906809856 := by
  have := blen_val_le zs h.limbs
  omega

theorem Chain.length {w : World} : ∀ {b : Nat} {vs : List Value} {rs : List (List Nat)}, Chain w b vs rs → vs.length = rs.length
  | _, [], [], _ => rfl
  | _, _ :: _, _ :: _, ⟨_, _, _, _, h⟩ => by simp [h.length]
  | _, [], _ :: _, h => h.elim
  | _, _ :: _, [], h => h.elim

theorem Chain.row {w : World} : ∀ {b : Nat} {vs : List Value} {rs : List (List Nat)}, Chain w b vs rs → ∀ i, i < vs.length → Ans w b (vs.getD i nilV) (rs.getD i [])
  | _, [], _, _, i, hi => absurd hi (by simp)
  | _, _ :: _, [], h, _, _ => h.elim
  | _, v :: vs, r :: rs, ⟨b', h1, h2, h3, h4⟩, i, hi => by
    cases i with
    | zero => exact h2
    | succ i => exact (h4.row i (by simpa using hi)).base h1.1

theorem Chain.from {w : World} {b : Nat} {vs : List Value} {rs : List (List Nat)} (h : Chain w b vs rs) (i : Nat) (hi : i < vs.length) (g : Nat) (hg : (vs.getD i nilV).ownBlock = some g) : b ≤ g := ((h.row i hi).own.lt g hg).1

theorem Chain.apart {w : World} : ∀ {b : Nat} {vs : List Value} {rs : List (List Nat)}, Chain w b vs rs → ∀ i j, i < vs.length → j < vs.length → i ≠ j → (vs.getD i nilV).ownBlock = none ∨ (vs.getD i nilV).ownBlock ≠ (vs.getD j nilV).ownBlock
  | _, [], _, _, i, _, hi, _, _ => absurd hi (by simp)
  | _, _ :: _, [], h, _, _, _, _, _ => h.elim
  | _, v :: vs, r :: rs, ⟨b', h1, h2, h3, h4⟩, i, j, hi, hj, hij => by
    cases i with
    | zero =>
      cases j with
      | zero => exact absurd rfl hij
      | succ j =>
        show v.ownBlock = none ∨ v.ownBlock ≠ (vs.getD j nilV).ownBlock
        cases hv : v.ownBlock with
        | none => exact .inl rfl
        | some g =>
          refine .inr fun e => ?_
          have a := h3 g hv
          have b := h4.from j (by simpa using hj) g e.symm
          omega
    | succ i =>
      cases j with
      | zero =>
        show (vs.getD i nilV).ownBlock = none ∨ (vs.getD i nilV).ownBlock ≠ v.ownBlock
        cases hv : (vs.getD i nilV).ownBlock with
        | none => exact .inl rfl
        | some g =>
          refine .inr fun e => ?_
          have a := h3 g e.symm
          have b := h4.from i (by simpa using hi) g hv
          omega
      | succ j => exact h4.apart i j (by simpa using hi) (by simpa using hj) (by omega)

theorem Chain.below {w w' : World} (hb : Below w.heap.size w w') : ∀ {b : Nat} {vs : List Value} {rs : List (List Nat)}, Chain w b vs rs → Chain w' b vs rs
  | _, [], [], _ => trivial
  | _, _ :: _, _ :: _, ⟨b', h1, h2, h3, h4⟩ => ⟨b', ⟨h1.1, Nat.le_trans h1.2 hb.size⟩, h2.below hb, h3, Chain.below hb h4⟩
  | _, [], _ :: _, h => h.elim
  | _, _ :: _, [], h => h.elim

theorem Chain.snoc {w w' : World} {v : Value} {r : List Nat} (hb : Below w.heap.size w w') (ha : Ans w' w.heap.size v r) : ∀ {b : Nat} {vs : List Value} {rs : List (List Nat)}, Chain w b vs rs → b ≤ w.heap.size → Chain w' b (vs ++ [v]) (rs ++ [r])
  | _, [], [], _, hl => ⟨w'.heap.size, ⟨Nat.le_trans hl hb.size, Nat.le_refl _⟩, ha.base hl, ha.top, trivial⟩
  | _, _ :: _, _ :: _, ⟨b', h1, h2, h3, h4⟩, _ => ⟨b', ⟨h1.1, Nat.le_trans h1.2 hb.size⟩, h2.below hb, h3, Chain.snoc hb ha h4 h1.2⟩
  | _, [], _ :: _, h, _ => h.elim
  | _, _ :: _, [], h, _ => h.elim

theorem Chain.one {w : World} {b : Nat} {v : Value} {r : List Nat} (h : Ans w b v r) (hb : b ≤ w.heap.size) : Chain w b [v] [r] := ⟨w.heap.size, ⟨hb, Nat.le_refl _⟩, h, h.top, trivial⟩

theorem own_chain (base : Nat) (vs : List Value) (rss : List (List Nat)) (w : World) (h : Chain w base vs rss) (hn : vs.length ≤ 1000) (hl : ∀ r ∈ rss, r.length ≤ 17592186044000) (hb : base ≤ w.heap.size) :
    Calls Tryz.prog 46 #[.slice (some ⟨w.heap.size, 0, none⟩) vs.length vs.length] (w.alloc (.cells vs.toArray 22)) fun e w' => e = .returned (.bool true) ∧ Below base w w' := by
  have hst : St (w.alloc (.cells vs.toArray 22)) base w.heap.size vs (fun i => rss.getD i []) := by
    have h' := h.below ((Below.refl _ _).alloc (Nat.le_refl _) (.cells vs.toArray 22))
    exact ⟨by rw [heap_alloc_new], h'.row, h'.apart⟩
  refine (own_any w.heap.size base vs (fun i => rss.getD i []) _ hst hn ?_ hb).mono ?_
  · intro i hi
    have hi' : i < rss.length := by rw [← h.length]; exact hi
    show (rss.getD i []).length ≤ _
    have e : rss.getD i [] = rss[i] := by simp [List.getD, hi']
    rw [e]
    exact hl _ (List.getElem_mem _)
  · rintro e w' ⟨rfl, hbel⟩
    exact ⟨rfl, ((Below.refl _ _).alloc hb _).trans hbel⟩

/-- A list that was lent: it lies within a greater one. -/
def Lent (w : World) (vw : Value) (zs : List Nat) : Prop := ∃ g, vw = .slice (some ⟨g, 0, none⟩) (zs.length + 4) (zs.length + 4) ∧ Blk w g (lent zs)

theorem Lent.below {w w' : World} {vw : Value} {zs : List Nat} (h : Lent w vw zs) (hb : Below w.heap.size w w') : Lent w' vw zs := by
  obtain ⟨g, h1, h2⟩ := h
  refine ⟨g, h1, ?_⟩
  unfold Blk
  rw [hb.block g h2.lt]; exact h2

theorem lend_ok (v : Value) (zs : List Nat) (w : World) (h : Arg w v zs) (hf : zs.length ≤ 35184372088000) :
    Calls Tryz.prog 60 #[v] w fun e w' => (∃ vw vp, e = .returned (.tuple #[vw, vp]) ∧ Lent w' vw zs ∧ Arg w' vp zs) ∧ Below w.heap.size w w' := by
  refine (lend_any v zs w h hf).mono ?_
  rintro e w' ⟨rfl, hb, hbel⟩
  refine ⟨⟨_, _, rfl, ⟨_, rfl, hb⟩, ⟨_, _, rfl, by omega, by omega, .inr ⟨_, 2, rfl, fun k hk => ?_⟩⟩, h.limbs, h.few, fun n c e => by cases e⟩, hbel⟩
  rw [hb.cell (2 + k) (by rw [lent_length]; omega), Nat.add_comm 2 k, lent_mid zs k hk]

theorem kept_ok (vw va : Value) (zs : List Nat) (w : World) (hl : Lent w vw zs) (ha : Arg w va zs) (hf : zs.length ≤ 35184372088000) :
    Calls Tryz.prog 32 #[vw, va] w fun e w' => e = .returned (.bool true) ∧ w' = w := by
  obtain ⟨g, rfl, hb⟩ := hl
  exact kept_any g va zs w hb ha hf

theorem Res.few {w : World} {base : Nat} {v : Value} {c : Int} {rs : List Nat} {s : Nat} (_ : Ans w base v rs) (h : (c = 0 ∧ val rs = s ∧ tr rs = rs ∧ blen s ≤ 67108864) ∨ (c = 3 ∧ rs = [] ∧ 67108864 < blen s)) : rs.length ≤ 1048576 := by
  rcases h with ⟨_, hv, ht, hs⟩ | ⟨_, rfl, _⟩
  · have := few_limbs rs 1048576 (by rw [hv]; omega)
    rwa [ht] at this
  · simp

end Go.Proofs.YtppkhhbhnhijpaaGreatDoor

/- Own, once more: it leaves alone what is no list of limbs. -/
namespace Go.Proofs.YtppkhhbhnhijpaaGreatDoor
open Go.RowKit
open Lm
attribute [local go_sem ↓] Go.wp_at_zero Go.wp_at_succ

/-- Nothing below base has turned, and no box. -/
structure BK (base : Nat) (w w' : World) : Prop where
  below : Below base w w'
  box : ∀ (g : Nat) (cs : Array Value) (t : TypeId), t ≠ 108 → t ≠ 22 → w.heap[g]? = some (.cells cs t) → w'.heap[g]? = some (.cells cs t)

theorem BK.refl (base : Nat) (w : World) : BK base w w := ⟨Below.refl _ _, fun _ _ _ _ _ h => h⟩

theorem BK.store {base : Nat} {w wr : World} {g n cap : Nat} {zs : List Nat} (h : BK base w wr) (ha : Ans wr base (.slice (some ⟨g, 0, none⟩) n cap) zs) (j : Nat) (u : Value) : BK base w (wr.setCell ⟨g, j, none⟩ u) := by
  obtain ⟨_, h2⟩ := ha.own
  rcases h2 with ⟨e, _⟩ | ⟨g', cap', cur, e, hge, hh, _⟩
  · cases e
  · simp only [Value.slice.injEq, Option.some.injEq, Addr.mk.injEq] at e
    obtain ⟨⟨rfl, _⟩, _⟩ := e
    refine ⟨h.below.setCell (p := ⟨g, j, none⟩) hge u, fun g2 cs t ht ht2 hc => ?_⟩
    have h1 := h.box g2 cs t ht ht2 hc
    rw [Below.heap_setCell _ _ _ _ ?_]
    · exact h1
    · rintro rfl
      rw [hh] at h1
      simp only [Option.some.injEq, Obj.cells.injEq] at h1
      exact ht h1.2.1.symm

theorem BK.grew {base : Nat} {w wr w2 : World} {v : Value} {zs : List Nat} {L : Nat} {vs : Array Value} {o : Obj} (h : BK base w wr) (hrow : Ans wr base v zs) (hL : wr.heap[L]? = some (.cells vs 22 (0, 0))) (hb : base ≤ L) (hg : (wr.alloc o).grownBy w2 v.ownBlock) (k : Nat) (u : Value) :
    BK base w (w2.setCell ⟨L, k, none⟩ u) := by
  have hLs := lt_of_block hL
  refine ⟨((h.below.alloc (by omega) _).grown hg (by simp; omega) (fun g hg => (hrow.own.lt g hg).1)).setCell hb _, fun g2 cs t ht ht2 hc => ?_⟩
  have h1 := h.box g2 cs t ht ht2 hc
  have h1s := lt_of_block h1
  have hsz : (wr.alloc o).heap.size = wr.heap.size + 1 := by simp
  rw [Below.heap_setCell _ _ _ _ ?_]
  · have e1 : (wr.alloc o).heap[g2]? = wr.heap[g2]? := Below.heap_alloc wr o g2 h1s
    rw [hg.block g2 (by omega) ?_, e1]
    · exact h1
    · intro e
      obtain ⟨_, h2⟩ := hrow.own
      rcases h2 with ⟨rfl, _⟩ | ⟨g', cap', cur, rfl, hge, hh, _⟩
      · simp [Value.ownBlock] at e
      · simp [Value.ownBlock] at e
        subst e
        rw [hh] at h1
        simp only [Option.some.injEq, Obj.cells.injEq] at h1
        exact ht h1.2.1.symm
  · rintro rfl
    rw [hL] at h1
    simp only [Option.some.injEq, Obj.cells.injEq] at h1
    exact ht2 h1.2.1.symm

set_option maxHeartbeats 1000000 in
theorem own_anyK (L base : Nat) (vs : List Value) (rows : Nat → List Nat) (w : World) (h : St w base L vs rows) (hn : vs.length ≤ 1000) (hl : ∀ i, i < vs.length → (rows i).length ≤ 17592186044000) (hb : base ≤ L) :
    Calls Tryz.prog 46 #[.slice (some ⟨L, 0, none⟩) vs.length vs.length] w fun e w' => e = .returned (.bool true) ∧ BK base w w' := by
  go_enter Tryz.func46, Tryz.ntmps46
  go_wp2
  go_loopw [15] (fun i wr => ∃ k : Nat, k ≤ vs.length ∧ i = .int .i64 k ∧ St wr base L vs (overTo rows k) ∧ BK base w wr) (fun i _ => vs.length - (intOf i).toNat)
  case atStart => exact ⟨0, Nat.zero_le _, rfl, h.congr (fun i _ => by simp [overTo]), BK.refl _ _⟩
  case round =>
    obtain ⟨k, hk, rfl, hst, hbl⟩ := hrel
    by_cases hkl : k < vs.length
    · have hck := hst.cell k hkl
      have hrow := hst.row k hkl
      have hrk : overTo rows k k = rows k := by simp [overTo]
      rw [hrk] at hrow
      have hlk := hl k hkl
      have ec : (k : Int) % 251 + 1 = ((k % 251 + 1 : Nat) : Int) := by omega
      have bc : k % 251 + 1 < 18446744073709551616 := by omega
      have HRK := hide hrk
      have HOV : Hid (over rows k = List.replicate (rows k).length (k % 251 + 1)) := rfl
      have HST := hide hst
      have HBL := hide hbl
      generalize k % 251 + 1 = c at *
      clear hst hbl hrk h
      rcases hrow.form with ⟨hv, hz⟩ | ⟨g, cap, hv, hg1, hg2, hcap, hmax, _, _⟩
      · rw [hv] at hck
        have HZ := hide hz
        clear hrow hv hz
        go_wp2
        refine wp_loop_rounds 1 ?_
        rw [rounds_succ]
        go_wp2
        go_roundw
        case rel =>
          refine ⟨k + 1, by omega, by go_num, HST.out.congr (fun m _ => ?_), HBL.out⟩
          by_cases e : m = k
          · subst e
            rw [HRK.out]
            simp [overTo, over, HZ.out]
          · exact overTo_step rows k m e
        case measure => simp [intOf]; omega
      · rw [hv] at hck
        go_wp2
        go_loopw [22] (fun i wr => ∃ j : Nat, j ≤ (rows k).length ∧ i = .int .i64 j ∧ St wr base L vs (upd (overTo rows k) k (List.replicate j c ++ (rows k).drop j)) ∧ BK base w wr) (fun i _ => (rows k).length - (intOf i).toNat)
        case atStart =>
          refine ⟨0, Nat.zero_le _, rfl, HST.out.congr (fun m _ => ?_), HBL.out⟩
          by_cases e : m = k
          · subst e; rw [HRK.out, upd_same]; simp
          · rw [upd_other _ _ _ _ e]
        case round =>
          obtain ⟨j, hj, rfl, hst, hbl⟩ := hrel
          clear HST HBL
          by_cases hjl : j < (rows k).length
          · have hr2 := hst.row k hkl
            rw [upd_same] at hr2
            have hfl := fill_length (rows k) j c hj
            rcases hr2.form with ⟨hv2, _⟩ | ⟨g', cap', hv2, hg1', hg2', _, _, hfr', hcl'⟩
            · rw [hv2] at hv; cases hv
            · have hgg : g' = g := by rw [hv2] at hv; simp only [Value.slice.injEq, Option.some.injEq, Addr.mk.injEq] at hv; exact hv.1.1
              subst hgg
              have hfr := hfr' j
              have hco := hcl' j (by omega)
              have hst2 := hst.store k g' cap' hkl (by rw [upd_same]; exact hv2) j c bc
              rw [upd_same, fill_set (rows k) j c hjl] at hst2
              have HS := hide hst2
              have HL := hide (hbl.store (hv2 ▸ hr2) j (.int .u64 (c : Int)))
              generalize (List.replicate j c ++ (rows k).drop j).getD j 0 = o at *
              clear hst hbl hst2 hr2 hv2 hfr' hcl' hrow hv hck hfl
              go_wp2
              go_roundw
              case rel =>
                refine ⟨j + 1, by omega, by go_num, HS.out.congr (fun m _ => ?_), HL.out⟩
                by_cases e : m = k
                · subst e; rw [upd_same, upd_same]
                · rw [upd_other _ _ _ _ e, upd_other _ _ _ _ e, upd_other _ _ _ _ e]
              case measure => simp [intOf]; omega
          · have ej : j = (rows k).length := by omega
            subst ej
            have HS := hide hst
            have HL := hide hbl
            clear hst hbl hrow hv hck
            go_wp2
            go_roundw
            case rel =>
              refine ⟨k + 1, by omega, by go_num, HS.out.congr (fun m _ => ?_), HL.out⟩
              by_cases e : m = k
              · subst e
                rw [upd_same]
                have : overTo rows (m + 1) m = over rows m := by simp [overTo]
                rw [this, HOV.out]; simp
              · rw [upd_other _ _ _ _ e]; exact overTo_step rows k m e
            case measure => simp [intOf]; omega
    · have ek : k = vs.length := by omega
      subst ek
      have hst3 : St wr base L vs (over rows) := hst.congr (fun m hm => by simp [overTo, hm])
      have HST := hide hst3
      have HBL := hide hbl
      clear hst hbl hst3 h
      obtain ⟨i0, hi, hz0, hz1, hz2⟩ := info_parts Tryz.infoU
      go_wp2
      go_loopw [36] (fun i wr => ∃ (k : Nat) (us : List Value), k ≤ vs.length ∧ us.length = vs.length ∧ i = .int .i64 k ∧ St wr base L us (fun m => if m < k then over rows m ++ five (300 + 5 * m) else over rows m) ∧ BK base w wr) (fun i _ => vs.length - (intOf i).toNat)
      case atStart => exact ⟨0, vs, Nat.zero_le _, rfl, rfl, HST.out.congr (fun m _ => by simp), HBL.out⟩
      case round =>
        obtain ⟨k, us, hk', hus, rfl, hst, hbl⟩ := hrel
        clear HST HBL
        by_cases hkl' : k < vs.length
        · have hku : k < us.length := by omega
          have hck := hst.cell k hku
          have hrow := hst.row k hku
          simp only [Nat.lt_irrefl, if_false] at hrow
          have hfr := hst.free k
          have hlen : (over rows k).length ≤ 17592186044000 := by unfold over; rw [List.length_replicate]; exact hl k hkl'
          have eb : (300 : Int) + 5 * (k : Int) = ((300 + 5 * k : Nat) : Int) := by omega
          have HST := hide hst
          have HBL := hide hbl
          have HV := hide (rfl : us.getD k nilV = us.getD k nilV)
          have HB5 : Hid (300 + 5 * k < 6000) := by unfold Hid; omega
          obtain ⟨bb, hbb⟩ : ∃ bb, bb = 300 + 5 * k := ⟨_, rfl⟩
          rw [← hbb] at eb
          have hb6 : bb < 6000 := by omega
          have HBB := hide hbb
          generalize hv : us.getD k nilV = v at *
          have HVV := hide hv
          obtain ⟨b1, h1⟩ : ∃ b1, b1 = bb + 1 := ⟨_, rfl⟩
          obtain ⟨b2, h2⟩ : ∃ b2, b2 = bb + 2 := ⟨_, rfl⟩
          obtain ⟨b3, h3⟩ : ∃ b3, b3 = bb + 3 := ⟨_, rfl⟩
          obtain ⟨b4, h4⟩ : ∃ b4, b4 = bb + 4 := ⟨_, rfl⟩
          have g1 : (bb : Int) + 1 = (b1 : Int) := by omega
          have g2 : (bb : Int) + 2 = (b2 : Int) := by omega
          have g3 : (bb : Int) + 3 = (b3 : Int) := by omega
          have g4 : (bb : Int) + 4 = (b4 : Int) := by omega
          have q1 : b1 < 18446744073709551616 := by omega
          have q2 : b2 < 18446744073709551616 := by omega
          have q3 : b3 < 18446744073709551616 := by omega
          have q4 : b4 < 18446744073709551616 := by omega
          have H5 : Hid ([bb, b1, b2, b3, b4] = five (300 + 5 * k)) := hide (by rw [h1, h2, h3, h4, hbb]; rfl)
          clear hst hbl hv hbb HV h1 h2 h3 h4
          go_wp2_with (at_builtin; refine wpList_append_own_at _ rfl _ _ 22 rfl base 108 i0 (.int .u64 0) 1 8 Tryz.underlying22 hi hz0 hz1 hz2 rfl (by decide) v (over rows k).length _ rfl (hrow.own.alloc _) ⟨wr.heap.size, 0, none⟩ 5 5 ([bb, b1, b2, b3, b4].map lv) rfl rfl (news_cells [bb, b1, b2, b3, b4]) (lv_oneCell _) (by unfold maxLen; omega) (by omega) (by have := lt_of_block HST.out.list; simp; omega) ?_; intro v' w2 hown2 hgrow2 _ hat2; have hkp := HST.out.kept k hku HVV.out _ hgrow2; have hck2 := hkp.1; have hfr2 := hkp.2; clear hkp; obtain ⟨g5, cap5, hv5⟩ := own_shape hown2 (by omega); subst hv5; have HO := hide hown2; have HG := hide hgrow2; have HAT := hide hat2; clear hown2 hgrow2 hat2)
          go_roundw
          case rel =>
            refine ⟨k + 1, us.set k _, by omega, by rw [List.length_set]; exact hus, by go_num, (HST.out.grow k hku _ _ (over rows k ++ five (300 + 5 * k)) ?_ ?_ (by rw [HVV.out]; exact HG.out) (by rw [HVV.out]; exact HAT.out)).congr (fun m _ => ?_), ?_⟩
            · rw [← H5.out, List.length_append, List.map_append]; exact HO.out
            · exact row_limbs rows k (by omega)
            · by_cases e : m = k
              · subst e; rw [upd_same]; simp
              · rw [upd_other _ _ _ _ e]
                by_cases h1 : m < k
                · rw [if_pos h1, if_pos (by omega)]
                · rw [if_neg h1, if_neg (by omega)]
            · have hLs := lt_of_block HST.out.list
              exact HBL.out.grew hrow HST.out.list hb HG.out k _
          case measure => simp [intOf]; omega
        · have ek : k = vs.length := by omega
          subst ek
          have hst4 : St wr base L us (fun m => over rows m ++ five (300 + 5 * m)) := hst.congr (fun m hm => by simp [show m < vs.length by omega])
          have HST := hide hst4
          have HBL := hide hbl
          clear hst hbl hst4 hi hz0 hz1 hz2
          go_wp2
          go_loop [64] (fun i => ∃ k : Nat, k ≤ vs.length ∧ i = .int .i64 k) (fun i => vs.length - (intOf i).toNat)
          case atStart => exact ⟨0, Nat.zero_le _, rfl⟩
          case round =>
            obtain ⟨k, hk4, rfl⟩ := hrel
            by_cases hkl4 : k < vs.length
            · have hku : k < us.length := by omega
              have hck := HST.out.cell k hku
              have hrow := HST.out.row k hku
              have hlr : (over rows k ++ five (300 + 5 * k)).length = (rows k).length + 5 := by simp [over, five]
              rcases hrow.form with ⟨_, h0⟩ | ⟨g, cap, hv, _, _, hgl, hgm, _, hgc⟩
              · rw [h0] at hlr; simp at hlr
              · rw [hlr] at hv hgl hgc
                rw [hv] at hck
                have hzl := hl k hkl4
                have HGC := hide hgc
                clear hrow hgc hv hlr
                go_wp2
                go_loop [71] (fun i => ∃ j : Nat, j ≤ (rows k).length + 5 ∧ i = .int .i64 j) (fun i => (rows k).length + 5 - (intOf i).toNat)
                case atStart => exact ⟨0, Nat.zero_le _, rfl⟩
                case round =>
                  obtain ⟨j, hj, rfl⟩ := hrel
                  by_cases hjl : j < (rows k).length + 5
                  · have hcj := HGC.out j hjl
                    by_cases hj2 : j < (rows k).length
                    · rw [row_low rows k j hj2] at hcj
                      have ec : (k : Int) % 251 + 1 = ((k % 251 + 1 : Nat) : Int) := by omega
                      have bc : k % 251 + 1 < 18446744073709551616 := by omega
                      generalize k % 251 + 1 = c at *
                      have hne : ((c : Int) != (c : Int)) = false := by simp
                      have i1 : (j : Int) < ((rows k).length : Int) := by omega
                      have hd2 : decide (((rows k).length : Int) ≤ (j : Int)) = false := decide_eq_false (by omega)
                      generalize (rows k).length = zl at *
                      go_wp2
                      go_round
                      case rel => exact ⟨j + 1, by omega, by go_num⟩
                      case measure => simp [intOf]; omega
                    · rw [row_high rows k j (by omega) hjl] at hcj
                      have hd1 : decide ((j : Int) < ((rows k).length : Int)) = false := decide_eq_false (by omega)
                      have i1 : ((rows k).length : Int) ≤ (j : Int) := by omega
                      generalize (rows k).length = zl at *
                      obtain ⟨t, ht⟩ : ∃ t, t = 300 + 5 * k + (j - zl) := ⟨_, rfl⟩
                      rw [← ht] at hcj
                      have et : (300 : Int) + 5 * (k : Int) + (j : Int) - ((zl : Int) + 5) + 5 = (t : Int) := by omega
                      have bt : t < 18446744073709551616 := by omega
                      have hne : ((t : Int) != (t : Int)) = false := by simp
                      have HT := hide ht
                      clear ht
                      go_wp2
                      go_round
                      case rel => exact ⟨j + 1, by omega, by go_num⟩
                      case measure => simp [intOf]; omega
                  · go_wp2
                    go_round
                    case rel => exact ⟨k + 1, by omega, by go_num⟩
                    case measure => simp [intOf]; omega
            · go_wp2
              go_ret
              exact ⟨rfl, HBL.out⟩

/-- Answers that lie apart. -/
structure Aparts (w : World) (base : Nat) (vs : List Value) (rss : List (List Nat)) : Prop where
  len : vs.length = rss.length
  row : ∀ i, i < vs.length → Ans w base (vs.getD i nilV) (rss.getD i [])
  apart : ∀ i j, i < vs.length → j < vs.length → i ≠ j → (vs.getD i nilV).ownBlock = none ∨ (vs.getD i nilV).ownBlock ≠ (vs.getD j nilV).ownBlock

theorem Chain.aparts {w : World} {base : Nat} {vs : List Value} {rss : List (List Nat)} (h : Chain w base vs rss) : Aparts w base vs rss := ⟨h.length, h.row, h.apart⟩

theorem Aparts.below {w w' : World} {base : Nat} {vs : List Value} {rss : List (List Nat)} (h : Aparts w base vs rss) (hb : Below w.heap.size w w') : Aparts w' base vs rss := ⟨h.len, fun i hi => (h.row i hi).below hb, h.apart⟩

theorem own_aparts (base : Nat) (vs : List Value) (rss : List (List Nat)) (w : World) (h : Aparts w base vs rss) (hn : vs.length ≤ 1000) (hl : ∀ r ∈ rss, r.length ≤ 17592186044000) (hb : base ≤ w.heap.size) :
    Calls Tryz.prog 46 #[.slice (some ⟨w.heap.size, 0, none⟩) vs.length vs.length] (w.alloc (.cells vs.toArray 22)) fun e w' => e = .returned (.bool true) ∧ BK base w w' := by
  have hst : St (w.alloc (.cells vs.toArray 22)) base w.heap.size vs (fun i => rss.getD i []) := by
    have h' := h.below ((Below.refl _ _).alloc (Nat.le_refl _) (.cells vs.toArray 22))
    exact ⟨by rw [heap_alloc_new], h'.row, h'.apart⟩
  refine (own_anyK w.heap.size base vs (fun i => rss.getD i []) _ hst hn ?_ hb).mono ?_
  · intro i hi
    have hi' : i < rss.length := by rw [← h.len]; exact hi
    show (rss.getD i []).length ≤ _
    have e : rss.getD i [] = rss[i] := by simp [List.getD, hi']
    rw [e]
    exact hl _ (List.getElem_mem _)
  · rintro e w' ⟨rfl, hbel⟩
    refine ⟨rfl, ((Below.refl _ _).alloc hb _).trans hbel.below, fun g cs t ht ht2 hc => hbel.box g cs t ht ht2 ?_⟩
    rw [Below.heap_alloc w _ g (lt_of_block hc)]; exact hc

end Go.Proofs.YtppkhhbhnhijpaaGreatDoor
